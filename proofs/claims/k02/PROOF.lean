import PyProof.Rows.All
import Wide.All
import OpenK.AllK
import Wide.FinOn
import HandS.ForMost
import HandS.Evl
import HandS.Gcd
import HandS.Wide
import HandS.NoneIn
import HandS.IsInst
import HandS.Exc
import HandS.TryOnly
import HandS.ExcOwn
import HandS.WordsExc
import HandS.ExcInit
import HandS.ExcField
import HandS.ExcIs
import HandS.SetFor
import HandS.AnyAll
import KE.KExcIs
import PyProof.ReprRoads
import PyProof.WalksPairs
import PyProof.GenCompT
import PyProof.SumAny
import KE.KTypeName
import PyProof.ListCopy
import PySem.Challenge.RW_onenumber_k02_pairs
set_option Elab.async false
set_option linter.all false
/-! fractions as core rationals -/
namespace Jf
theorem gcd_pos {n d : Int} (hd : d ≠ 0) : 0 < Nat.gcd n.natAbs d.natAbs := Nat.gcd_pos_of_pos_right _ (by omega)
theorem low_split (n d : Int) (hd : d ≠ 0) : ∃ (g : Nat) (k m : Int), g = Nat.gcd n.natAbs d.natAbs ∧ 0 < g ∧ n = (g : Int) * k ∧ d = (g : Int) * m ∧ (Rat.divInt n d).num = d.sign * k ∧ ((Rat.divInt n d).den : Int) = d.sign * m := by
  have h1 : ((Nat.gcd n.natAbs d.natAbs : Nat) : Int) ∣ n := Int.ofNat_dvd_left.mpr (Nat.gcd_dvd_left _ _)
  have h2 : ((Nat.gcd n.natAbs d.natAbs : Nat) : Int) ∣ d := Int.ofNat_dvd_left.mpr (Nat.gcd_dvd_right _ _)
  obtain ⟨k, hk⟩ := h1
  obtain ⟨m, hm⟩ := h2
  have hp := gcd_pos (n := n) hd
  refine ⟨_, k, m, rfl, hp, hk, hm, ?_, ?_⟩
  · have hg : (d.gcd n : Nat) = Nat.gcd n.natAbs d.natAbs := by rw [Int.gcd_comm]; rfl
    rw [Rat.num_divInt, hg]
    generalize hG : Nat.gcd n.natAbs d.natAbs = G at *
    have hG0 : (G : Int) ≠ 0 := by omega
    rw [hk, ← Int.mul_assoc, Int.mul_comm d.sign (G : Int), Int.mul_assoc, Int.mul_ediv_cancel_left _ hG0]
  · have hg : (d.gcd n : Nat) = Nat.gcd n.natAbs d.natAbs := by rw [Int.gcd_comm]; rfl
    rw [Rat.den_divInt, if_neg hd, hg]
    generalize hG : Nat.gcd n.natAbs d.natAbs = G at *
    have hG0 : (G : Int) ≠ 0 := by omega
    have e : d.natAbs = G * m.natAbs := by rw [hm, Int.natAbs_mul]; rfl
    rw [e, Nat.mul_div_cancel_left _ hp]
    have hs : d.sign = m.sign := by rw [hm, Int.sign_mul, Int.sign_natCast_of_ne_zero (by omega), Int.one_mul]
    rw [hs, Int.sign_mul_self]
/-- the program's lowest -/
theorem lowest_eq (n d : Int) (hd : d ≠ 0) :
    n.fdiv (if d < 0 then -((Nat.gcd n.natAbs d.natAbs : Nat) : Int) else ((Nat.gcd n.natAbs d.natAbs : Nat) : Int)) = (Rat.divInt n d).num ∧
    d.fdiv (if d < 0 then -((Nat.gcd n.natAbs d.natAbs : Nat) : Int) else ((Nat.gcd n.natAbs d.natAbs : Nat) : Int)) = ((Rat.divInt n d).den : Int) := by
  obtain ⟨g, k, m, hg, hp, hn, hm, e1, e2⟩ := low_split n d hd
  rw [← hg, e1, e2]
  have hg0 : (g : Int) ≠ 0 := by omega
  by_cases h : d < 0
  · rw [if_pos h, Int.sign_eq_neg_one_of_neg h]
    have hn' : n = (-(g : Int)) * (-k) := by rw [hn]; grind
    have hm' : d = (-(g : Int)) * (-m) := by rw [hm]; grind
    have hg1 : (-(g : Int)) ≠ 0 := by omega
    constructor
    · rw [hn', Int.mul_fdiv_cancel_left _ hg1]; omega
    · rw [hm', Int.mul_fdiv_cancel_left _ hg1]; omega
  · rw [if_neg h, Int.sign_eq_one_of_pos (by omega)]
    constructor
    · rw [hn, Int.mul_fdiv_cancel_left _ hg0]; omega
    · rw [hm, Int.mul_fdiv_cancel_left _ hg0]; omega
/-- the law's low -/
theorem low_eq (n d : Int) (hd : d ≠ 0) (s : Int) (hs : s = if d < 0 then -1 else 1) :
    (s * n) / ((Nat.gcd n.natAbs d.natAbs : Nat) : Int) = (Rat.divInt n d).num ∧ (s * d) / ((Nat.gcd n.natAbs d.natAbs : Nat) : Int) = ((Rat.divInt n d).den : Int) := by
  obtain ⟨g, k, m, hg, hp, hn, hm, e1, e2⟩ := low_split n d hd
  rw [← hg, e1, e2]
  have hg0 : (g : Int) ≠ 0 := by omega
  have hs' : s = d.sign := by
    by_cases h : d < 0
    · rw [hs, if_pos h, Int.sign_eq_neg_one_of_neg h]
    · rw [hs, if_neg h, Int.sign_eq_one_of_pos (by omega)]
  rw [hs']
  constructor
  · rw [show d.sign * n = (g : Int) * (d.sign * k) by rw [hn]; grind, Int.mul_ediv_cancel_left _ hg0]
  · rw [show d.sign * d = (g : Int) * (d.sign * m) by
      generalize d.sign = z
      rw [hm]; grind, Int.mul_ediv_cancel_left _ hg0]
theorem num_le (n d : Int) (hd : d ≠ 0) : (Rat.divInt n d).num.natAbs ≤ n.natAbs := by
  obtain ⟨g, k, m, hg, hp, hn, hm, e1, e2⟩ := low_split n d hd
  have hs : d.sign.natAbs = 1 := by rw [Int.natAbs_sign, if_neg hd]
  rw [e1, Int.natAbs_mul, hs, hn, Int.natAbs_mul, Nat.one_mul]
  exact Nat.le_mul_of_pos_left _ (by omega)
theorem den_le (n d : Int) (hd : d ≠ 0) : (Rat.divInt n d).den ≤ d.natAbs := by
  obtain ⟨g, k, m, hg, hp, hn, hm, e1, e2⟩ := low_split n d hd
  have hs : d.sign.natAbs = 1 := by rw [Int.natAbs_sign, if_neg hd]
  have e3 : (Rat.divInt n d).den = m.natAbs := by
    have := congrArg Int.natAbs e2
    rw [Int.natAbs_mul, hs, Nat.one_mul] at this
    simpa using this
  rw [e3]
  have : d.natAbs = g * m.natAbs := by rw [hm, Int.natAbs_mul]; rfl
  rw [this]
  exact Nat.le_mul_of_pos_left _ (by omega)
theorem den_pos (q : Rat) : (0 : Int) < (q.den : Int) := by have := q.den_pos; omega
theorem den_ne (q : Rat) : (q.den : Int) ≠ 0 := by have := q.den_pos; omega
theorem add_eq (q r : Rat) : Rat.divInt (q.num * r.den + r.num * q.den) (q.den * r.den) = q + r := by
  rw [← Rat.divInt_add_divInt _ _ (den_ne q) (den_ne r), Rat.num_divInt_den, Rat.num_divInt_den]
theorem sub_eq (q r : Rat) : Rat.divInt (q.num * r.den - r.num * q.den) (q.den * r.den) = q - r := by
  rw [← Rat.divInt_sub_divInt _ _ (den_ne q) (den_ne r), Rat.num_divInt_den, Rat.num_divInt_den]
theorem mul_eq (q r : Rat) : Rat.divInt (q.num * r.num) (q.den * r.den) = q * r := by
  rw [← Rat.divInt_mul_divInt, Rat.num_divInt_den, Rat.num_divInt_den]
theorem div_eq (q r : Rat) : Rat.divInt (q.num * r.den) (q.den * r.num) = q / r := by
  rw [Rat.div_def, Rat.inv_def, ← Rat.divInt_mul_divInt, Rat.num_divInt_den]
theorem num_ne {r : Rat} (h : r ≠ 0) : r.num ≠ 0 := fun e => h (Rat.num_eq_zero.mp e)
theorem red (q : Rat) : Nat.gcd q.num.natAbs (q.den : Int).natAbs = 1 := by
  have := q.reduced
  simpa [Nat.Coprime] using this
/-- compare -/
def cmp (q r : Rat) : Int := if q = r then 0 else if r < q then 1 else -1
theorem cmp_eq (q r : Rat) : (if (q - r).num = 0 then (0 : Int) else if 0 < (q - r).num then 1 else -1) = cmp q r := by
  unfold cmp
  have e : (q - r).num = 0 ↔ q = r := by
    rw [Rat.num_eq_zero]
    constructor <;> intro h <;> grind
  by_cases h : q = r
  · rw [if_pos (e.mpr h), if_pos h]
  · rw [if_neg (fun z => h (e.mp z)), if_neg h]
    have e2 : 0 < (q - r).num ↔ r < q := by
      have h1 : (0 : Int) ≤ (q - r).num ↔ 0 ≤ q - r := Rat.num_nonneg
      have h2 : (q - r).num ≠ 0 := fun z => h (e.mp z)
      constructor
      · intro z
        have := h1.mp (by omega)
        grind
      · intro z
        have : 0 ≤ q - r := by grind
        have := h1.mpr this
        omega
    by_cases z : r < q
    · rw [if_pos z, if_pos (e2.mpr z)]
    · rw [if_neg z, if_neg (fun y => z (e2.mp y))]
/-! bounds by powers of two -/
theorem lt_pow_mul {a b m n : Nat} (ha : a < 2 ^ m) (hb : b < 2 ^ n) : a * b < 2 ^ (m + n) := by
  rw [Nat.pow_add]
  exact Nat.mul_lt_mul'' ha hb
theorem lt_pow_add {a b n : Nat} (ha : a < 2 ^ n) (hb : b < 2 ^ n) : a + b < 2 ^ (n + 1) := by
  rw [Nat.pow_succ]; omega
theorem lt_pow_mono {a m n : Nat} (h : m ≤ n) (ha : a < 2 ^ m) : a < 2 ^ n := Nat.lt_of_lt_of_le ha (Nat.pow_le_pow_right (by decide) h)
theorem abs_add_le (a b : Int) : (a + b).natAbs ≤ a.natAbs + b.natAbs := by omega
theorem abs_sub_le (a b : Int) : (a - b).natAbs ≤ a.natAbs + b.natAbs := by omega
/-- a fraction within b bits -/
def Bd (b : Nat) (q : Rat) : Prop := q.num.natAbs < 2 ^ b ∧ q.den < 2 ^ b
theorem Bd.mono {b c : Nat} {q : Rat} (h : b ≤ c) (x : Bd b q) : Bd c q := ⟨lt_pow_mono h x.1, lt_pow_mono h x.2⟩
theorem bd_divInt {n d : Int} {b : Nat} (hd : d ≠ 0) (hn : n.natAbs < 2 ^ b) (hb : d.natAbs < 2 ^ b) : Bd b (Rat.divInt n d) :=
  ⟨Nat.lt_of_le_of_lt (num_le n d hd) hn, Nat.lt_of_le_of_lt (den_le n d hd) hb⟩
theorem bn_mul {i j : Int} {a b : Nat} (ha : i.natAbs < 2 ^ a) (hb : j.natAbs < 2 ^ b) : (i * j).natAbs < 2 ^ (a + b) := by
  rw [Int.natAbs_mul]
  exact lt_pow_mul ha hb
theorem bn_add {i j : Int} {a : Nat} (ha : i.natAbs < 2 ^ a) (hb : j.natAbs < 2 ^ a) : (i + j).natAbs < 2 ^ (a + 1) :=
  Nat.lt_of_le_of_lt (abs_add_le i j) (lt_pow_add ha hb)
theorem bn_sub {i j : Int} {a : Nat} (ha : i.natAbs < 2 ^ a) (hb : j.natAbs < 2 ^ a) : (i - j).natAbs < 2 ^ (a + 1) :=
  Nat.lt_of_le_of_lt (abs_sub_le i j) (lt_pow_add ha hb)
theorem bd_den {q : Rat} {b : Nat} (x : Bd b q) : (q.den : Int).natAbs < 2 ^ b := by
  have := x.2
  simpa using this
/-! Euclid's steps end -/
def euc : Nat → Nat → Nat → Nat × Nat
  | 0, a, b => (a, b)
  | n + 1, a, b => euc n b (a % b)
theorem mod_half {a b : Nat} (hb : 0 < b) (h : b ≤ a) : 2 * (a % b) < a := by
  have h1 : a % b < b := Nat.mod_lt _ hb
  have h2 := Nat.div_add_mod a b
  have h3 : 1 ≤ a / b := Nat.div_pos h hb
  have h4 : b * 1 ≤ b * (a / b) := Nat.mul_le_mul_left b h3
  omega
/-- one step halves the product once b is at most a -/
theorem step_half {a b n : Nat} (hb : 0 < b) (h : b ≤ a) (hp : a * b < 2 ^ (n + 1)) : b * (a % b) < 2 ^ n := by
  have h1 := mod_half hb h
  have h2 : b * (2 * (a % b)) ≤ b * a := Nat.mul_le_mul_left b (Nat.le_of_lt h1)
  rw [Nat.pow_succ] at hp
  have h3 : b * (2 * (a % b)) = 2 * (b * (a % b)) := Nat.mul_left_comm _ _ _
  have h4 : b * a = a * b := Nat.mul_comm _ _
  omega
/-- where one is with n steps left: small enough to end -/
def EucEnds (n a b : Nat) : Prop := b = 0 ∨ (b ≤ a ∧ 1 ≤ n ∧ a * b < 2 ^ (n - 1)) ∨ (2 ≤ n ∧ a * b < 2 ^ (n - 2))
theorem EucEnds.step {n a b : Nat} (hb : b ≠ 0) (h : EucEnds (n + 1) a b) : EucEnds n b (a % b) := by
  have hb0 : 0 < b := Nat.pos_of_ne_zero hb
  have hlt : a % b < b := Nat.mod_lt _ hb0
  rcases h with h | ⟨h1, h2, h3⟩ | ⟨h2, h3⟩
  · exact absurd h hb
  · cases n with
    | zero =>
      have : a * b < 1 := h3
      have h5 : 0 < a * b := Nat.mul_pos (Nat.lt_of_lt_of_le hb0 h1) hb0
      omega
    | succ n =>
      refine .inr (.inl ⟨Nat.le_of_lt hlt, by omega, ?_⟩)
      exact step_half hb0 h1 h3
  · have h6 : b * (a % b) ≤ a * b := by
      rw [Nat.mul_comm]
      exact Nat.mul_le_mul_right b (Nat.mod_le a b)
    refine .inr (.inl ⟨Nat.le_of_lt hlt, by omega, ?_⟩)
    exact Nat.lt_of_le_of_lt h6 (by simpa using h3)
theorem EucEnds.zero {a b : Nat} (h : EucEnds 0 a b) : b = 0 := by
  rcases h with h | ⟨_, h, _⟩ | ⟨h, _⟩ <;> omega
theorem gcd_step {a b g : Nat} (h : Nat.gcd a b = g) : Nat.gcd b (a % b) = g := by
  rw [← h, Nat.gcd_comm a b, Nat.gcd_rec b a, Nat.gcd_comm]
theorem gcd_end {a g : Nat} (h : Nat.gcd a 0 = g) : a = g := by rw [← h, Nat.gcd_zero_right]
end Jf
set_option Elab.async false
set_option linter.all false
namespace Jf
theorem cmp_64 (q r : Rat) : (cmp q r).natAbs < 2 ^ 64 := by
  have : (cmp q r).natAbs ≤ 1 := by unfold cmp; split <;> (try split) <;> decide
  exact Nat.lt_of_le_of_lt this (by decide)
theorem cmp_anti (q r : Rat) : cmp q r = 0 - cmp r q := by unfold cmp; grind
theorem cmp_add (q r s : Rat) : cmp (q + s) (r + s) = cmp q r := by unfold cmp; grind
theorem cmp_sub (q r : Rat) : cmp (q - r) 0 = cmp q r := by unfold cmp; grind
theorem cmp_zero (q r : Rat) : cmp q r = 0 ↔ q = r := by unfold cmp; grind
theorem cmp_trans {q r s : Rat} (h1 : 0 ≤ cmp q r) (h2 : 0 ≤ cmp r s) : ¬ cmp q s < 0 := by unfold cmp at *; grind
theorem cmp_mul (q r s : Rat) : cmp (q * s) (r * s) = cmp q r * cmp s 0 := by
  unfold cmp
  by_cases h : q = r
  · subst h; simp
  · by_cases h0 : s = 0
    · subst h0; simp
    · have e1 : (q - r) * s ≠ 0 := by
        intro e
        rcases Rat.mul_eq_zero.mp e with e | e <;> grind
      have ne : ¬ q * s = r * s := by grind
      rw [if_neg ne, if_neg h, if_neg h0]
      by_cases hs : 0 < s
      · by_cases hq : r < q
        · have := Rat.mul_pos (show 0 < q - r by grind) hs
          grind
        · have := Rat.mul_pos (show 0 < r - q by grind) hs
          grind
      · by_cases hq : r < q
        · have := Rat.mul_pos (show 0 < q - r by grind) (show 0 < -s by grind)
          grind
        · have := Rat.mul_pos (show 0 < r - q by grind) (show 0 < -s by grind)
          grind
theorem six (q : Rat) : Rat.divInt (q.num * 6) (q.den * 6) = q := by
  rw [← Rat.divInt_mul_divInt, Rat.num_divInt_den, Rat.divInt_self' (by decide), Rat.mul_one]
theorem negs (q : Rat) : Rat.divInt (0 - q.num) (0 - q.den) = q := by
  rw [show 0 - q.num = q.num * (-1) by omega, show (0 : Int) - q.den = q.den * (-1) by omega, ← Rat.divInt_mul_divInt, Rat.num_divInt_den, Rat.divInt_self' (by decide), Rat.mul_one]
theorem r_assoc (a b c : Rat) : a + b + c = a + (b + c) := by grind
theorem r_massoc (a b c : Rat) : a * b * c = a * (b * c) := by grind
theorem r_dist (a b c : Rat) : a * (b + c) = a * b + a * c := by grind
theorem r_addsub (a b : Rat) : a + b - b = a := by grind
theorem r_subadd (a b : Rat) : a - b + b = a := by grind
theorem r_divmul (a b : Rat) (h : b ≠ 0) : a / b * b = a := by grind
theorem r_muldiv (a b : Rat) (h : b ≠ 0) : a * b / b = a := by grind
end Jf
set_option Elab.async false
set_option linter.all false
set_option maxRecDepth 100000
set_option maxHeartbeats 4000000
namespace Jf
open PySem PySem.Spec PyProof.Rows L2 Evl
/-- a def of the text behind the top -/
structure FT (K : PySem.W.Frag) (mg : Str → Option Value) (x : Str) (st : Stmt) (ps : List Str) where
  a : Addr
  fd : FuncData
  F : Fun K x x st a fd
  b : Binds K fd ps []
  g : mg x = some (.ref a)
/-- // by a divisor that is not 0, below 2 ^ 9000 in size -/
def CDivZ (_ j : Int) : Prop := j ≠ 0 ∧ j.natAbs.log2 < 9000
theorem op_fdivZ {X : Cx} : OpR X (binaryOp .FloorDiv) (rI CDivZ fun i j => .int (i.fdiv j)) := opI fun i j _ _ _ _ _ hc q =>
  floordiv_int hc.1 q (.inl (PyProof.noPylong_of_log2 hc.2))
theorem log_lt {j : Nat} {b c : Nat} (h : j < 2 ^ b) (hc : b ≤ c) (h0 : 0 < c) : j.log2 < c :=
  Nat.lt_of_lt_of_le (PySem.Flt.log2_lt_of h0 (lt_pow_mono hc h)) (Nat.le_refl _)
theorem mulW {i j : Int} {a b : Nat} (ha : i.natAbs < 2 ^ a) (hb : j.natAbs < 2 ^ b) (h : a + b ≤ 900000) : CMulW i j :=
  wide_mul (lt_pow_mono (Nat.le_succ a) ha) (lt_pow_mono (Nat.le_succ b) hb) (Nat.succ_pos _) (Nat.succ_pos _) (by omega)

/-! ### what evaluates to a value of a kind -/
def EvP (te : TE) (σ : L2.St) (H : Hp) (P : V → Hp → Prop) : Prop := ∀ H1, Ex H H1 → ∀ Q : VK, (∀ v H2, Ex H1 H2 → P v H2 → Q v H2) → te σ H1 Q
/-- a fraction of at most b bits stands at v -/
def Fr (K : PySem.W.Frag) (b : Nat) (q : Rat) (v : V) (H : Hp) : Prop := ∃ p, v = .ref p ∧ SqT K H p [.int q.num, .int (q.den : Int)] ∧ Bd b q
section
variable {K : PySem.W.Frag} {σ : L2.St} {H H' : Hp} {te ta tb : TE} {P : V → Hp → Prop} {v : V} {b c n : Nat} {q r : Rat}
theorem Fr.ex (e : Ex H H') (h : Fr K b q v H) : Fr K b q v H' := by
  obtain ⟨p, rfl, h, x⟩ := h
  exact ⟨p, rfl, ex_t e h, x⟩
theorem Fr.mono (e : b ≤ c) (h : Fr K b q v H) : Fr K c q v H := by
  obtain ⟨p, rfl, h, x⟩ := h
  exact ⟨p, rfl, h, x.mono e⟩
theorem Fr.bd (h : Fr K b q v H) : Bd b q := h.choose_spec.2.2
theorem EvP.mono (e : Ex H H') (h : EvP te σ H P) : EvP te σ H' P := fun H1 a Q q => h H1 (e.trans a) Q q
theorem ep_var {i : Nat} (h : σ[i]? = some (some v)) (hf : Fr K b q v H) : EvP (tVar i) σ H (Fr K b q) := fun H1 e _ k => ⟨v, h, k v H1 (Ex.refl H1) (hf.ex e)⟩
theorem ep_mono (h : EvP te σ H (Fr K b q)) (e : b ≤ c) : EvP te σ H (Fr K c q) := fun H1 a Q k => h H1 a Q fun v H2 e2 f => k v H2 e2 (f.mono e)
theorem ep_is (h : EvP te σ H (Fr K b q)) (e : q = r) : EvP te σ H (Fr K b r) := e ▸ h
theorem ev_0 (h : EvP te σ H (Fr K b q)) : Ev (tOp (rIxT K) te (tC (.int 0))) σ H (.int q.num) := fun H1 a Q k => h H1 a _ fun v H2 e2 f => by
  obtain ⟨p, rfl, f, _⟩ := f
  exact ⟨p, _, 0, .int q.num, rfl, rfl, f, rfl, k H2 e2⟩
theorem ev_1 (h : EvP te σ H (Fr K b q)) : Ev (tOp (rIxT K) te (tC (.int 1))) σ H (.int (q.den : Int)) := fun H1 a Q k => h H1 a _ fun v H2 e2 f => by
  obtain ⟨p, rfl, f, _⟩ := f
  exact ⟨p, _, 1, .int (q.den : Int), rfl, rfl, f, rfl, k H2 e2⟩
/-- a new pair of ints that are a fraction's -/
theorem ep_tup {x y : Int} (ha : Ev ta σ H (.int x)) (hb : Ev tb σ H (.int y)) (e1 : x = q.num) (e2 : y = (q.den : Int)) (bd : Bd b q) : EvP (tTup (tCons ta (tCons tb tNil))) σ H (Fr K b q) := fun H1 a Q k =>
  ha H1 a _ fun H2 a2 => hb H2 (a.trans a2) _ fun H3 a3 => ⟨by show 2 ≤ sizeLine; decide, fun p hp => k _ _ ((a2.trans a3).trans (Ex.new hp)) ⟨p, rfl, by subst e1 e2; exact SqT.of upd_same, bd⟩⟩
theorem ev_mulW {x y : Int} (ha : Ev ta σ H (.int x)) (hb : Ev tb σ H (.int y)) (h : CMulW x y) : Ev (tOp (rI CMulW fun i j => .int (i * j)) ta tb) σ H (.int (x * y)) := ev_op ha hb (rv_I h)
theorem ev_add {x y : Int} (ha : Ev ta σ H (.int x)) (hb : Ev tb σ H (.int y)) : Ev (tOp (rI0 fun i j => .int (i + j)) ta tb) σ H (.int (x + y)) := ev_op ha hb rv_I0
theorem ev_sub {x y : Int} (ha : Ev ta σ H (.int x)) (hb : Ev tb σ H (.int y)) : Ev (tOp (rI0 fun i j => .int (i - j)) ta tb) σ H (.int (x - y)) := ev_op ha hb rv_I0
theorem ev_fdivZ {x y : Int} (ha : Ev ta σ H (.int x)) (hb : Ev tb σ H (.int y)) (h : CDivZ x y) : Ev (tOp (rI CDivZ fun i j => .int (i.fdiv j)) ta tb) σ H (.int (x.fdiv y)) := ev_op ha hb (rv_I h)
theorem ev_neg {x : Int} (ha : Ev ta σ H (.int x)) : Ev (tUn (rU fun i => .int (-i)) ta) σ H (.int (-x)) := ev_un ha ru_neg
theorem s_retP {D : Ends} (h : EvP te σ H P) (k : ∀ v H1, Ex H H1 → P v H1 → D.rt v H1) : tRet te D σ H := h H (Ex.refl H) _ k
theorem s_asgP {D : Ends} {i : Nat} (h : EvP te σ H P) (k : ∀ v H1, Ex H H1 → P v H1 → D.nx (σ.set i (some v)) H1) : tAsg te (gName i) D σ H := h H (Ex.refl H) _ k
theorem s_dropP {D : Ends} (h : EvP te σ H P) (k : ∀ v H1, Ex H H1 → P v H1 → D.nx σ H1) : tDrop te D σ H := h H (Ex.refl H) _ k

/-! ### deep equality of two fractions -/
theorem Fr.dp (h : Fr K b q v H) : Dp K H v (.tuple [.int q.num, .int (q.den : Int)]) := by
  obtain ⟨p, rfl, h, _⟩ := h
  exact .tup h (.cons (.int _) (.cons (.int _) .nil))
theorem eqv_fr (q r : Rat) : PyData.eqv (.tuple [.int q.num, .int (q.den : Int)]) (.tuple [.int r.num, .int (r.den : Int)]) = decide (q = r) := by
  simp only [PyData.eqv, PyData.eqvAll, Bool.and_true]
  have e : q = r ↔ q.num = r.num ∧ (q.den : Int) = (r.den : Int) := by
    constructor
    · rintro rfl
      exact ⟨rfl, rfl⟩
    · rintro ⟨h1, h2⟩
      exact Rat.ext h1 (by omega)
  rw [Bool.eq_iff_iff]
  simp [e]
theorem ev_neD (ha : EvP ta σ H (Fr K b q)) (hb : EvP tb σ H (Fr K c r)) : Ev (tOp (rNeD K) ta tb) σ H (.bl (!decide (q = r))) := fun H1 a Q k =>
  ha H1 a _ fun x H2 a2 f => hb H2 (a.trans a2) _ fun y H3 a3 g => ⟨_, _, (f.ex a3).dp, g.dp, rfl, rfl, by
    rw [eqv_fr]
    exact k H3 (a2.trans a3)⟩
theorem ev_eqD (ha : EvP ta σ H (Fr K b q)) (hb : EvP tb σ H (Fr K c r)) : Ev (tOp (rEqD K) ta tb) σ H (.bl (decide (q = r))) := fun H1 a Q k =>
  ha H1 a _ fun x H2 a2 f => hb H2 (a.trans a2) _ fun y H3 a3 g => ⟨_, _, (f.ex a3).dp, g.dp, rfl, rfl, by
    rw [eqv_fr]
    exact k H3 (a2.trans a3)⟩

/-! ### a def of two fractions -/
/-- op q r, of b + c + 1 bits at most -/
def sp2 (K : PySem.W.Frag) (ok : Rat → Prop) (f : Rat → Rat → Rat) : Sp := fun vs H Q _ => ∃ (u v : V) (b c : Nat) (q r : Rat), vs = [u, v] ∧ Fr K b q u H ∧ Fr K c r v H ∧ b + c + 1 ≤ 8000 ∧ ok r ∧
  ∀ z H', Ex H H' → Fr K (b + c + 1) (f q r) z H' → Q z H'
theorem ep_2 {ok : Rat → Prop} {f : Rat → Rat → Rat} {E : XK} (ha : EvP ta σ H (Fr K b q)) (hb : EvP tb σ H (Fr K c r)) (hk : ok r) (hl : b + c + 1 ≤ 8000) (hn : b + c + 1 = n) : EvP (tCall (sp2 K ok f) [] E (tCons ta (tCons tb tNil))) σ H (Fr K n (f q r)) := fun H1 a Q k =>
  ha H1 a _ fun x H2 a2 g => hb H2 (a.trans a2) _ fun y H3 a3 h => ⟨x, y, b, c, q, r, rfl, g.ex a3, h, hl, hk, fun z H' e w => k z H' ((a2.trans a3).trans e) (by subst hn; exact w)⟩
/-- compare -/
def spC (K : PySem.W.Frag) : Sp := fun vs H Q _ => ∃ (u v : V) (b c : Nat) (q r : Rat), vs = [u, v] ∧ Fr K b q u H ∧ Fr K c r v H ∧ b + c + 1 ≤ 8000 ∧ ∀ H', Ex H H' → Q (.int (cmp q r)) H'
theorem ev_C {E : XK} (ha : EvP ta σ H (Fr K b q)) (hb : EvP tb σ H (Fr K c r)) (hl : b + c + 1 ≤ 8000) : Ev (tCall (spC K) [] E (tCons ta (tCons tb tNil))) σ H (.int (cmp q r)) := fun H1 a Q k =>
  ha H1 a _ fun x H2 a2 g => hb H2 (a.trans a2) _ fun y H3 a3 h => ⟨x, y, b, c, q, r, rfl, g.ex a3, h, hl, fun H' e => k H' ((a2.trans a3).trans e)⟩
/-- is_fraction of a fraction; require_fraction of one -/
def spIs (K : PySem.W.Frag) (x : V) : Sp := fun vs H Q _ => ∃ (u : V) (b : Nat) (q : Rat), vs = [u] ∧ Fr K b q u H ∧ ∀ H', Ex H H' → Q x H'
theorem ev_Is {E : XK} {x : V} (ha : EvP ta σ H (Fr K b q)) : Ev (tCall (spIs K x) [] E (tCons ta tNil)) σ H x := fun H1 a Q k =>
  ha H1 a _ fun u H2 a2 g => ⟨u, b, q, rfl, g, fun H' e => k H' (a2.trans e)⟩
/-- lowest, fraction of two ints -/
def spLow (K : PySem.W.Frag) : Sp := fun vs H Q _ => ∃ (n d : Int) (b : Nat), vs = [.int n, .int d] ∧ d ≠ 0 ∧ n.natAbs < 2 ^ b ∧ d.natAbs < 2 ^ b ∧ b ≤ 8000 ∧ ∀ z H', Ex H H' → Fr K b (Rat.divInt n d) z H' → Q z H'
theorem ep_Low {E : XK} {x y : Int} (ha : Ev ta σ H (.int x)) (hb : Ev tb σ H (.int y)) (hd : y ≠ 0) (hx : x.natAbs < 2 ^ b) (hy : y.natAbs < 2 ^ b) (hl : b ≤ 8000) (hq : Rat.divInt x y = q) : EvP (tCall (spLow K) [] E (tCons ta (tCons tb tNil))) σ H (Fr K b q) := fun H1 a Q k =>
  ha H1 a _ fun H2 a2 => hb H2 (a.trans a2) _ fun H3 a3 => ⟨x, y, b, rfl, hd, hx, hy, hl, fun z H' e w => k z H' ((a2.trans a3).trans e) (by subst hq; exact w)⟩
/-- of any int whether it is one; require_whole -/
def spWhole (x : V) : Sp := fun vs H Q _ => ∃ n : Int, vs = [.int n] ∧ ∀ H', Ex H H' → Q x H'
theorem ev_Whole {E : XK} {x : V} {n : Int} (ha : Ev ta σ H (.int n)) : Ev (tCall (spWhole x) [] E (tCons ta tNil)) σ H x := fun H1 a Q k =>
  ha H1 a _ fun H2 a2 => ⟨n, rfl, fun H' e => k H' (a2.trans e)⟩
end
end Jf
set_option Elab.async false
set_option linter.all false
set_option maxRecDepth 100000
set_option maxHeartbeats 4000000
namespace Jf
open PySem PySem.Spec PyProof.Rows L2 Evl
/-! ### defs that show data: no list or tuple is being shown when they are called -/
structure FnG (P : Program) (w : World) (K : PySem.W.Frag) (mg : Str → Option Value) (base : Heap) (k : Nat) (f : Addr) (fd : FuncData) (ps : List Str) (sp : Sp) : Prop where
  size : ∀ vs H Q E, sp vs H Q E → vs.length = ps.length
  go : ∀ (A : Around) (outer : List Env) (s : Shared) (H : Hp) (args : Args) (us : List Value) (vs : List V) (Q : VK), A.guards = some [] → Room k A →
    Env0 P w K mg base A outer s H → BindsTo s fd args (ps.zip us) → Vals vs us → sp vs H Q E0 → codeAny (model P w) A (.call (.ref f) args) (CR CX0 outer P w H s Q E0) s
section
variable {X : Cx} {k : Nat} {f : Addr} {fd : FuncData} {ps : List Str} {sp : Sp} {x : Str} {p pos : Pos} {e : Expr} {es : List Expr} {t : TA}
/-- f(e, ..) of such a def -/
theorem pe_callG (F : FnG X.prog X.w X.K X.mg X.base k f fd ps sp) (gd : X.A.guards = some []) (hr : Room k X.A) (hg : Gl X x) (hm : X.mg x = some (.ref f)) (hk : PySem.W.keepIn X.K (.ref f) = true) (hb : Binds X.K fd ps [])
    (ha : PA X (e :: es) t) (hdb : (x == ("__debug__" : Str)) = false := by decide)
    (he : starEach (e :: es) X.env = (false, eval e X.env) :: starEach es X.env := by rfl)
    (hpl : (backTo pos (starEach es X.env)).any (·.1) = false := by rfl) : PE X (.Call (.Name x p) (e :: es) [] pos) (tCall sp [] E0 t) := by
  constructor
  intro pins s σ H Q I h
  apply wpAny_Call_Name_kw
  apply ld_glob I hg hm _ hdb
  apply PySem.W.callWith_K (h₀ := X.base) I.ok.mod.kin hk _ he hpl
  apply thn (ha.run pos pins s σ H _ I h)
  rintro us s1 ⟨vs, H1, I1, r, q⟩
  refine ⟨I1.kIn, ?_⟩
  have q' : sp vs H1 Q E0 := by
    have z := q
    rw [List.append_nil] at z
    exact z
  have hz : us.length = ps.length := r.length ▸ F.size _ _ _ _ q'
  have bt := hb s1 us I1.kIn (by simpa using hz)
  rw [List.append_nil] at bt
  apply wpAny_call
  apply codeAny_mono (F.go X.A X.stack s1 H1 ⟨us, []⟩ us vs Q gd hr I1.env0 bt r q')
  intro res s' hq
  match res, hq with
  | .ok (.ret u), hq => exact I1.after hq
  | .error _, hq => exact False.elim hq
end
section
variable {P : Program} {w : World} {K : PySem.W.Frag} {mg : Str → Option Value} {base : Heap}
/-- such a def, by its body -/
theorem okG {x qual : Str} {st : Stmt} {f : Addr} {fd : FuncData} {N ps : List Str} {k : Nat} {sp : Sp} (F : Fun K x qual st f fd) (S : FnScope N ps (defScope st)) (len : ∀ vs H Q E, sp vs H Q E → vs.length = ps.length)
    (body : ∀ (cdv : Value) (A : Around) (outer : List Env) (s : Shared) (H : Hp) (vs : List V) (Q : VK), A.guards = some [] → Room k (A.deeper (envOfC qual (defScope st) s.heap.objs.size f cdv)) → sp vs H Q E0 →
      ∃ t, PSs (cxOf CX0 P w K mg base N qual (defScope st) f cdv A outer s H E0).nox (defBody st) t ∧ t { nx := fun _ H' => Q .non H', rt := Q } (start N vs) H) :
    FnG P w K mg base (k + 1) f fd ps sp := by
  obtain ⟨oc, od, kV, doc, pm, an, cdv, ct, osl, rfl, lk, hcd⟩ := F.ex
  constructor
  · exact len
  intro A outer s H args us vs Q gd hr e0 hb r hsp
  have here : ∀ b o, base.get? b = some o → s.heap.get? b = some o := fun b o e => (e0.bs b o e).1
  have KX : K.In s.heap := e0.mod.kin.keeps here
  have par : ∀ y ∈ ps.zip us, (defScope st).names.lookup y.1 = some .local ∨ ((defScope st).names.lookup y.1 = some .cell ∧ ((cellsFrom (s.heap.objs.size + 1) (defScope st).names []).lookup y.1).isSome = true) := by
    rintro ⟨n, v⟩ hy
    have q := S.par n (List.of_mem_zip hy).1
    exact q.imp id fun z => ⟨z, PySem.W.cellsFrom_some _ _ _ (.inl z)⟩
  apply codeAny_call_function hr.depth (KX _ _ lk) rfl S.co S.gen rfl (PySem.W.codeRec_of KX hcd)
  apply hb
  apply wpAny_newFunctionEnv_cells S.kind par
  intro env he s1 ic
  subst he
  refine ⟨(e0.mod.nolimit.keeps here).keeps ic.toInCall.keep, codeAny_func ?_⟩
  obtain ⟨t, ht, hq⟩ := body cdv A outer s H vs Q gd (hr.deeper _) hsp
  have I0 := inv_start (CX := CX0) (E := E0) S hr.hd e0 (len _ _ _ _ hsp) r ic
  apply wpAny_mono (ht.nox.run [] s1 (start N vs) H _ I0 hq)
  · intro fl s' hs
    match fl, hs with
    | .ret u, ⟨v, σ', H', J, rv, q⟩ => exact ⟨v, H', J.os, J.bare, J.base, J.hok, rv, q⟩
    | .next, ⟨σ', H', J, q⟩ => exact ⟨V.non, H', J.os, J.bare, J.base, J.hok, rfl, q⟩
    | .brk, ⟨_, _, _, q⟩ => exact False.elim q
    | .cont, ⟨_, _, _, q⟩ => exact False.elim q
  · intro e s' hs
    exact hs
end
/-! ### isinstance of the error that a suite holds, its own dict read -/
/-- what its class must say -/
structure ErrC (K : PySem.W.Frag) (C : Addr) : Prop where
  cl : (PySem.W.clsIn K C).isSome = true
  ga : PySem.W.findIn K (.ref C) "__getattribute__" = some (some (.builtin "BaseException.__getattribute__"))
  gg : PySem.W.findIn K (.ref C) "__getattr__" = some none
  ex : PySem.W.subIn K (.ref C) (.type "BaseException") = some true
  hd : PySem.W.hasDictIn K C = true
  kc : PySem.W.findIn K (.ref C) "__class__" = some (some (.builtin "object.__class__"))
  sp : PySem.W.specialIn K (.builtin "object.__class__") "__get__" = some (some (.builtin "getset_descriptor.__get__"))
  tk : PySem.W.takesIn K (.builtin "object.__class__") = some true
  mo : PySem.W.mroIn K C (.type "object") = some true
def rIsD (K : PySem.W.Frag) (a : Addr) (cls : Value) (d : Option Addr) : List V → Hp → VK → Prop := fun xs H Q => ∃ (C B dd : Addr) (fs : List (Str × V)) (b : Bool), xs = [.ref a, .ref B] ∧ cls = .ref C ∧ ErrC K C ∧ d = some dd ∧ H dd = some (.xd fs) ∧ PySem.W.kitOne K (.ref C) (.ref B) = some b ∧ Q (.bl b) H
theorem call_isD {X : Cx} {a : Addr} {oe : Obj} {cls : Value} {d : Option Addr} {pn : List (Addr × Obj)} (hz : Zc cls d oe) (hf : ∃ vs, oe.data = .fields vs) : CallR (X.suite a ((a, oe) :: pn)) (.builtin "isinstance") (rIsD X.K a cls d) := by
  intro pins s σ H xs us Q I r h
  obtain ⟨C, B, dd, fs, b, rfl, rfl, T, rfl, ed, hk, q⟩ := h
  cases r with
  | cons rx rr =>
    cases rr with
    | cons rt rr =>
      cases rr
      cases rx
      cases rt
      have hget := (I.pin (a, oe) (List.mem_append_left _ List.mem_cons_self)).1
      obtain ⟨vs, hv⟩ := hf
      have hx : ObjOk X.prog X.w H s.heap dd (.xd fs) := I.hok dd _ ed
      obtain ⟨mA, hns, _⟩ := hx
      obtain ⟨od, ho, _⟩ := lookIn_ns hns
      have J : PySem.W.InstAt s.heap a oe C (some od) := by
        refine ⟨hget, hz.1, ?_, ?_⟩
        · unfold PySem.W.notCls
          rw [hv] <;> rfl
        · rw [hz.2]
          exact ho
      refine PySem.W.kia_one (PySem.W.kitx_exc T.cl T.ga T.gg T.ex T.kc T.sp T.tk T.mo) I.kIn J hk (fun z => nomatch z) ?_
      intro tk
      exact ⟨.bl b, H, I.kept (t' := tk) fun _ _ z => z, rfl, q⟩
/-! ### repr -/
/-- a list that is written out: it isn't at sys.modules -/
def tLstN (t : TA) : TE := fun σ H Q => t σ H fun xs H1 => xs.length ≤ sizeLine ∧ ∀ p, H1 p = none → p ≠ sysModules → Q (.ref p) (upd H1 p (.lst xs))
theorem pe_lstN {X : Cx} {es : List Expr} {t : TA} {pos : Pos} (h : PA X es t) : PE X (.List es pos) (tLstN t) := by
  constructor
  intro pins s σ H Q I want
  apply wpAny_List_spliced
  apply thn (h.run pos pins s σ H _ I want)
  rintro us s1 ⟨xs, H1, I1, vals, len, k⟩
  have free : H1 s1.heap.objs.size = none := I1.hok.fresh (Nat.le_refl _)
  refine ⟨vals.length ▸ len, .ref _, upd H1 _ (.lst xs), I1.laid (t' := s1.toks) (fun _ _ e => Heap.get?_push_of_some _ e) (Nat.le_refl _) ⟨len, us, 0, vals, Heap.get?_push_size _ rfl⟩, rfl, ?_⟩
  exact k _ free (Nat.ne_of_gt I1.big)
mutual
/-- data at a value: lists that are tracked (and are not what stands at p), tuples, the empty dict -/
inductive Dq (K : PySem.W.Frag) (p : Addr) (H : Hp) : V → PyData → Prop
  | non : Dq K p H .non .none
  | bl (b : Bool) : Dq K p H (.bl b) (.bool b)
  | int (i : Int) : Dq K p H (.int i) (.int i)
  | str (x : Str) : Dq K p H (.str x) (.str x)
  | lst {a : Addr} {xs : List V} {ds : List PyData} : a ≠ p → a ≠ sysModules → H a = some (.lst xs) → DqAll K p H xs ds → Dq K p H (.ref a) (.list ds)
  | tup {a : Addr} {xs : List V} {ds : List PyData} : SqT K H a xs → DqAll K p H xs ds → Dq K p H (.ref a) (.tuple ds)
  | emp {a : Addr} : H a = some (.dK []) → Dq K p H (.ref a) (.dict [])
inductive DqAll (K : PySem.W.Frag) (p : Addr) (H : Hp) : List V → List PyData → Prop
  | nil : DqAll K p H [] []
  | cons {v : V} {vs : List V} {d : PyData} {ds : List PyData} : Dq K p H v d → DqAll K p H vs ds → DqAll K p H (v :: vs) (d :: ds)
end
mutual
theorem Dq.ex {K : PySem.W.Frag} {p : Addr} {H H' : Hp} (e : Ex H H') : ∀ (d : PyData) (v : V), Dq K p H v d → Dq K p H' v d
  | _, _, .non => .non
  | _, _, .bl b => .bl b
  | _, _, .int i => .int i
  | _, _, .str x => .str x
  | _, _, .lst n m h hs => .lst n m (e _ _ h) (DqAll.ex e _ _ hs)
  | _, _, .tup h hs => .tup (ex_t e h) (DqAll.ex e _ _ hs)
  | _, _, .emp h => .emp (e _ _ h)
theorem DqAll.ex {K : PySem.W.Frag} {p : Addr} {H H' : Hp} (e : Ex H H') : ∀ (ds : List PyData) (vs : List V), DqAll K p H vs ds → DqAll K p H' vs ds
  | _, _, .nil => .nil
  | _, _, .cons h hs => .cons (Dq.ex e _ _ h) (DqAll.ex e _ _ hs)
end
section
variable {X : Cx} {pins : List (Addr × Obj)} {σ : L2.St} {H : Hp} {s : Shared}
mutual
theorem Dq.reads {p : Addr} (I : Inv X pins σ H s) : ∀ (d : PyData) (v : V) (u : Value), Dq X.K p H v d → RelV v u → ∃ as, Reads s.heap u d as ∧ sysModules ∉ as
  | _, _, u, .non, r => by
    cases (show u = Value.none from r)
    exact ⟨_, .none, by simp⟩
  | _, _, u, .bl b, r => by
    cases (show u = Value.bool b from r)
    exact ⟨_, .bool b, by simp⟩
  | _, _, u, .int i, r => by
    obtain ⟨t, q⟩ := (show ∃ t, u = Value.int i t from r)
    cases q
    exact ⟨_, .int i t, by simp⟩
  | _, _, u, .str x, r => by
    obtain ⟨t, q⟩ := (show ∃ t, u = Value.str x t from r)
    cases q
    exact ⟨_, .str x t, by simp⟩
  | _, _, u, .lst (a := a) _ m h hs, r => by
    cases (show u = Value.ref a from r)
    have hx : ObjOk X.prog X.w H s.heap a (.lst _) := I.hok a _ h
    obtain ⟨_, its, n, rv, e⟩ := hx
    obtain ⟨as, q, nm⟩ := DqAll.reads I _ _ _ hs rv
    exact ⟨_, .list e rfl rfl (by simpa using q), by
      simp only [List.mem_cons, not_or]
      exact ⟨m.symm, nm⟩⟩
  | _, _, u, .tup (a := a) h hs, r => by
    cases (show u = Value.ref a from r)
    obtain ⟨its, rv, ⟨o, e, c, n, dd⟩, _⟩ := I.tuple h
    obtain ⟨as, q, nm⟩ := DqAll.reads I _ _ _ hs rv
    exact ⟨_, .tuple e c dd (by simpa using q), nm⟩
  | _, _, u, .emp (a := a) h, r => by
    cases (show u = Value.ref a from r)
    obtain ⟨_, nsm, vs, kv, o, es, ep, e, x, dd, _, pr, _⟩ := dk_of I.hok h
    cases kv
    have e0 : es.toList = [] := by
      cases hh : es.toList with
      | nil => rfl
      | cons y ys =>
        rw [hh] at pr
        cases pr
    exact ⟨_, .dict (as := []) (bs := []) e x.1 dd (by rw [e0]; exact .nil) (by rw [e0]; exact .nil), by
      have := (beq_eq_false_iff_ne.mp nsm).symm
      simpa using this⟩
theorem DqAll.reads {p : Addr} (I : Inv X pins σ H s) : ∀ (ds : List PyData) (vs : List V) (us : List Value), DqAll X.K p H vs ds → Vals vs us → ∃ as, ReadsAll s.heap us ds as ∧ sysModules ∉ as
  | _, _, us, .nil, r => by
    cases r
    exact ⟨_, .nil, by simp⟩
  | _, _, us, .cons h hs, r => by
    cases r with
    | cons r1 r2 =>
      obtain ⟨as, q1, n1⟩ := Dq.reads I _ _ _ h r1
      obtain ⟨bs, q2, n2⟩ := DqAll.reads I _ _ _ hs r2
      exact ⟨_, .cons q1 q2, by
        simp only [List.mem_append, not_or]
        exact ⟨n1, n2⟩⟩
end
end
mutual
theorem Dp.nd {K : PySem.W.Frag} {H : Hp} : ∀ (d : PyData) (v : V), Dp K H v d → d.hasDict = false
  | _, _, .non => rfl
  | _, _, .bl _ => rfl
  | _, _, .int _ => rfl
  | _, _, .str _ => rfl
  | _, _, .lst _ hs => by simp only [PyData.hasDict]; exact DpAll.nd _ _ hs
  | _, _, .tup _ hs => by simp only [PyData.hasDict]; exact DpAll.nd _ _ hs
theorem DpAll.nd {K : PySem.W.Frag} {H : Hp} : ∀ (ds : List PyData) (vs : List V), DpAll K H vs ds → PyData.hasDictAll ds = false
  | _, _, .nil => rfl
  | _, _, .cons h hs => by simp only [PyData.hasDictAll, Dp.nd _ _ h, DpAll.nd _ _ hs, Bool.or_false]
end
def rRepr (K : PySem.W.Frag) : List V → Hp → VK → Prop := fun xs H Q => ∃ (x : V) (d : PyData) (p : Addr), xs = [x] ∧ (Dq K p H x d ∨ Dp K H x d) ∧ d.showable = true ∧ d.depth ≤ 60 ∧ d.shown.length ≤ sizeLine ∧ Q (.str d.shown) H
section
variable {X : Cx}
theorem call_repr (gd : X.A.guards = some []) (hu : X.A.units + 64 < cLine) : CallR X (.builtin "repr") (rRepr X.K) := by
  intro pins s σ H xs us Q I r h
  obtain ⟨x, d, p, rfl, hd, hs, hdep, hz, q⟩ := h
  cases r with
  | cons r1 r2 =>
    cases r2
    rename_i u
    obtain ⟨as, hr, nm⟩ : ∃ as, Reads s.heap u d as ∧ (d.hasDict = true → sysModules ∉ as) := by
      rcases hd with hd | hd
      · obtain ⟨as, hr, nm⟩ := Dq.reads I d x u hd r1
        exact ⟨as, hr, fun _ => nm⟩
      · obtain ⟨as, hr⟩ := Dp.reads I d x u hd r1
        exact ⟨as, hr, fun z => by rw [Dp.nd d x hd] at z; cases z⟩
    have fin : ∀ h' u' tk, (∀ b o, s.heap.get? b = some o → h'.get? b = some o) → EP X pins σ Q (.str d.shown u') { s with heap := h', toks := tk } := fun h' u' tk hk => ⟨.str d.shown, H, I.kept hk, ⟨_, rfl⟩, q⟩
    have f0 := fin s.heap s.toks (s.toks + 1) (fun _ _ z => z)
    cases hr with
    | none => exact PySem.P.repr_of_none (by simpa [PyData.shown] using f0)
    | bool b => exact PySem.P.repr_of_bool (by simpa [PyData.shown] using f0)
    | int i t => exact PySem.P.repr_of_int (by simpa [PyData.showable] using hs) (by simpa [PyData.shown] using f0)
    | str y t => exact PySem.P.repr_of_str (by simpa [PyData.shown] using f0) (by simpa [PyData.shown] using hz)
    | list h1 h2 h3 h4 => exact repr_of_reads' (.list h1 h2 h3 h4) hs nm gd (by omega) (fun _ _ z => z) (fun h' u' tk hk => fin h' u' tk hk) hz
    | tuple h1 h2 h3 h4 => exact repr_of_reads' (.tuple h1 h2 h3 h4) hs nm gd (by omega) (fun _ _ z => z) (fun h' u' tk hk => fin h' u' tk hk) hz
    | dict h1 h2 h3 h4 h5 => exact repr_of_reads' (.dict h1 h2 h3 h4 h5) hs nm gd (by omega) (fun _ _ z => z) (fun h' u' tk hk => fin h' u' tk hk) hz
end
end Jf
set_option Elab.async false
set_option linter.all false
set_option maxRecDepth 100000
set_option maxHeartbeats 4000000
namespace Jf
open PySem PySem.Spec PyProof.Rows L2 Evl
/-! ### how long shown data is -/
def lens : List Str → Nat
  | [] => 0
  | t :: ts => t.length + 2 + lens ts
theorem textFrom_le : ∀ (ts : List Str) (k : Nat) (acc : Str), (textFrom k acc ts).length ≤ acc.length + lens ts
  | [], _, acc => by simp [textFrom, lens]
  | t :: ts, k, acc => by
    have h := textFrom_le ts (k + 1) (acc ++ (if k > 0 then ", " else "" : String) ++ t)
    have e : ((if k > 0 then ", " else "" : String) : Str).length ≤ 2 := by
      by_cases z : k > 0
      · rw [if_pos z]; decide
      · rw [if_neg z]; decide
    simp only [textFrom, lens, Str.length_append] at h ⊢
    omega
theorem join_le : ∀ ts : List Str, (Str.join ", " ts).length ≤ lens ts
  | [] => by simp only [Str.join, lens]; decide
  | [x] => by simp only [Str.join, lens]; omega
  | x :: y :: r => by
    have h := join_le (y :: r)
    have e : ((", " : String) : Str).length = 2 := by decide
    simp only [Str.join, lens, Str.length_append] at h ⊢
    omega
mutual
def cost : PyData → Nat
  | .none => 4
  | .bool _ => 5
  | .int i => i.natAbs.log2 + 3
  | .str x => (reprText x).length
  | .list xs => costAll xs + 4
  | .tuple xs => costAll xs + 4
  | .dict [] => 2
  | .dict (_ :: _) => 100000000
def costAll : List PyData → Nat
  | [] => 0
  | x :: xs => cost x + 2 + costAll xs
end
mutual
theorem shown_le : ∀ d : PyData, cost d < 100000000 → d.shown.length ≤ cost d
  | .none, _ => by simp only [PyData.shown, cost]; decide
  | .bool b, _ => by cases b <;> (simp only [PyData.shown, cost]; decide)
  | .int i, _ => by
    simp only [PyData.shown, cost]
    have h := int_text_length_le (a := i) (k := i.natAbs.log2 + 1) (by omega) (by omega)
    show (Str.ofString (toString i)).length ≤ _
    rw [PySem.ofString_length]
    omega
  | .str x, _ => by simp only [PyData.shown, cost]; omega
  | .list xs, h => by
    simp only [cost] at h
    have := shownAll_le xs (by omega)
    have z := textFrom_le (PyData.shownAll xs) 0 (Str.ofString "[")
    have e : (Str.ofString "[").length = 1 := by decide
    have e2 : (Str.ofString "]").length = 1 := by decide
    simp only [PyData.shown, cost, listText, Str.length_append] at z ⊢
    omega
  | .tuple xs, h => by
    simp only [cost] at h
    have := shownAll_le xs (by omega)
    have z := join_le (PyData.shownAll xs)
    have e : (Str.ofString "(").length = 1 := by decide
    have e2 : ((if (PyData.shownAll xs).length == 1 then ",)" else ")" : String) : Str).length ≤ 2 := by
      by_cases q : ((PyData.shownAll xs).length == 1) = true
      · rw [if_pos q]; decide
      · rw [if_neg q]; decide
    simp only [PyData.shown, cost, tupleText, Str.length_append] at z ⊢
    omega
  | .dict [], _ => by simp only [PyData.shown, PyData.shownKv, cost]; decide
  | .dict (_ :: _), h => by simp only [cost] at h; omega
theorem shownAll_le : ∀ ds : List PyData, costAll ds < 100000000 → lens (PyData.shownAll ds) ≤ costAll ds
  | [], _ => by simp [PyData.shownAll, lens, costAll]
  | d :: ds, h => by
    simp only [costAll] at h
    have h1 := shown_le d (by omega)
    have h2 := shownAll_le ds (by omega)
    simp only [PyData.shownAll, lens, costAll]
    omega
end
/-- data that is shown without harm: its text, its depth -/
structure Nc (c e : Nat) (d : PyData) : Prop where
  sh : d.showable = true
  dp : d.depth ≤ e
  co : cost d ≤ c
theorem Nc.mono {c c' e e' : Nat} {d : PyData} (h : Nc c e d) (h1 : c ≤ c') (h2 : e ≤ e') : Nc c' e' d := ⟨h.sh, Nat.le_trans h.dp h2, Nat.le_trans h.co h1⟩
theorem Nc.len {c e : Nat} {d : PyData} (h : Nc c e d) (hc : c ≤ 1000000) : d.shown.length ≤ c := Nat.le_trans (shown_le d (by have := h.co; omega)) h.co
theorem nc_none : Nc 4 0 .none := ⟨rfl, Nat.le_refl _, Nat.le_refl _⟩
theorem nc_bool (b : Bool) : Nc 5 0 (.bool b) := ⟨rfl, Nat.le_refl _, Nat.le_refl _⟩
theorem nc_int {n : Int} {b : Nat} (h : n.natAbs < 2 ^ b) (h0 : 0 < b) (h1 : b ≤ 1900) : Nc (b + 2) 0 (.int n) := by
  have := PySem.Flt.log2_lt_of h0 h
  refine ⟨?_, Nat.le_refl _, ?_⟩
  · simp only [PyData.showable, decide_eq_true_eq]; omega
  · simp only [cost]; omega
theorem nc_str {x : Str} {c : Nat} (h : (reprText x).length ≤ c) : Nc c 0 (.str x) := ⟨rfl, Nat.le_refl _, h⟩
/-- several -/
structure NcA (c e : Nat) (ds : List PyData) : Prop where
  sh : PyData.showableAll ds = true
  dp : PyData.depthAll ds ≤ e
  co : costAll ds ≤ c
theorem nca_nil {e : Nat} : NcA 0 e [] := ⟨rfl, Nat.zero_le _, Nat.le_refl _⟩
theorem nca_cons {c c' e : Nat} {d : PyData} {ds : List PyData} (h : Nc c e d) (hs : NcA c' e ds) : NcA (c + 2 + c') e (d :: ds) := by
  refine ⟨?_, ?_, ?_⟩
  · simp only [PyData.showableAll, h.sh, hs.sh, Bool.and_self]
  · simp only [PyData.depthAll]; exact Nat.max_le.mpr ⟨h.dp, hs.dp⟩
  · simp only [costAll]; have := h.co; have := hs.co; omega
theorem nc_tup {c e : Nat} {ds : List PyData} (h : NcA c e ds) : Nc (c + 4) (e + 1) (.tuple ds) := by
  refine ⟨?_, ?_, ?_⟩
  · simp only [PyData.showable, h.sh]
  · simp only [PyData.depth]; have := h.dp; omega
  · simp only [cost]; have := h.co; omega
theorem nc_lst {c e : Nat} {ds : List PyData} (h : NcA c e ds) : Nc (c + 4) (e + 1) (.list ds) := by
  refine ⟨?_, ?_, ?_⟩
  · simp only [PyData.showable, h.sh]
  · simp only [PyData.depth]; have := h.dp; omega
  · simp only [cost]; have := h.co; omega
theorem nc_emp : Nc 2 1 (.dict []) := ⟨rfl, Nat.le_refl _, Nat.le_refl _⟩
theorem nc_pair {n m : Int} {b : Nat} (hn : n.natAbs < 2 ^ b) (hm : m.natAbs < 2 ^ b) (h0 : 0 < b) (h1 : b ≤ 1900) : Nc (2 * b + 12) 1 (.tuple [.int n, .int m]) :=
  (nc_tup (nca_cons (nc_int hn h0 h1) (nca_cons (nc_int hm h0 h1) nca_nil))).mono (by omega) (by omega)
/-! ### which data is what -/
def tyName : PyData → String
  | .none => "NoneType"
  | .bool _ => "bool"
  | .int _ => "int"
  | .str _ => "str"
  | .list _ => "list"
  | .tuple _ => "tuple"
  | .dict _ => "dict"
def isTup : PyData → Bool
  | .tuple _ => true
  | _ => false
def isInt : PyData → Bool
  | .int _ => true
  | .bool _ => true
  | _ => false
def isBo : PyData → Bool
  | .bool _ => true
  | _ => false
def isWh : PyData → Bool
  | .int _ => true
  | _ => false
theorem wh_eq (d : PyData) : (isInt d && !isBo d) = isWh d := by cases d <;> rfl
theorem kit_tup (d : PyData) : kitB (tyName d) "tuple" = some (isTup d) := by cases d <;> (simp only [tyName, isTup]; decide +kernel)
theorem kit_int (d : PyData) : kitB (tyName d) "int" = some (isInt d) := by cases d <;> (simp only [tyName, isInt]; decide +kernel)
theorem kit_bool (d : PyData) : kitB (tyName d) "bool" = some (isBo d) := by cases d <;> (simp only [tyName, isBo]; decide +kernel)
section
variable {K : PySem.W.Frag} {p : Addr} {H H' : Hp} {v : V} {d : PyData}
theorem Dq.ty (h : Dq K p H v d) : TyX K H v (.type (tyName d)) := by
  cases h with
  | non => exact .base .non
  | bl b => exact .base (.bl b)
  | int i => exact .base (.int i)
  | str x => exact .base (.str x)
  | lst _ _ h _ => exact .base (.lst h)
  | tup h _ =>
    rcases h with (h | ⟨o, h⟩) | ⟨o, _, _, h, c, _⟩
    · exact .base (.tup h)
    · exact .fTuple h
    · exact .kTuple h c
  | emp h => exact .base (.dK h)
theorem DqAll.len : ∀ {vs : List V} {ds : List PyData}, DqAll K p H vs ds → vs.length = ds.length
  | _, _, .nil => rfl
  | _, _, .cons _ h => by rw [List.length_cons, List.length_cons, h.len]
theorem DqAll.mem : ∀ {vs : List V} {ds : List PyData}, DqAll K p H vs ds → ∀ x ∈ vs, ∃ d ∈ ds, Dq K p H x d
  | _, _, .nil, x, hx => nomatch hx
  | _, _, .cons (d := d) h hs, x, hx => by
    rcases List.mem_cons.mp hx with rfl | hx
    · exact ⟨d, List.mem_cons_self, h⟩
    · obtain ⟨e, he, q⟩ := hs.mem x hx
      exact ⟨e, List.mem_cons_of_mem _ he, q⟩
theorem DqAll.append : ∀ {vs ws : List V} {ds es : List PyData}, DqAll K p H vs ds → DqAll K p H ws es → DqAll K p H (vs ++ ws) (ds ++ es)
  | _, _, _, _, .nil, h => h
  | _, _, _, _, .cons a b, h => .cons a (b.append h)
/-- a fraction's data -/
def frd (q : Rat) : PyData := .tuple [.int q.num, .int (q.den : Int)]
theorem Fr.dq {b : Nat} {q : Rat} (h : Fr K b q v H) : Dq K p H v (frd q) := by
  obtain ⟨a, rfl, h, _⟩ := h
  exact .tup h (.cons (.int _) (.cons (.int _) .nil))
theorem Fr.nc {b : Nat} {q : Rat} (h : Fr K b q v H) (h0 : 0 < b) (h1 : b ≤ 1900) : Nc (2 * b + 12) 1 (frd q) := nc_pair h.bd.1 (bd_den h.bd) h0 h1
/-- whether it is a fraction's -/
def frB : PyData → Bool
  | .tuple [.int n, .int m] => decide (0 < m) && decide (Nat.gcd n.natAbs m.natAbs = 1)
  | _ => false
def frQ : PyData → Rat
  | .tuple [.int n, .int m] => Rat.divInt n m
  | _ => 0
theorem divInt_low {n m : Int} (hm : 0 < m) (hg : Nat.gcd n.natAbs m.natAbs = 1) : (Rat.divInt n m).num = n ∧ ((Rat.divInt n m).den : Int) = m := by
  obtain ⟨h1, h2⟩ := low_eq n m (by omega) 1 (by rw [if_neg (by omega)])
  rw [hg] at h1 h2
  constructor
  · rw [← h1]; simp
  · rw [← h2]; simp
theorem frB_frd (q : Rat) : frB (frd q) = true := by
  have := den_pos q
  have h := red q
  simp only [frd, frB, h, decide_true, Bool.and_true, decide_eq_true_eq]
  exact this
theorem frQ_frd (q : Rat) : frQ (frd q) = q := by
  simp only [frd, frQ]
  exact Rat.num_divInt_den q
theorem frB_iff (h : frB d = true) : d = frd (frQ d) := by
  unfold frB at h
  split at h
  · rename_i n m
    rw [Bool.and_eq_true] at h
    obtain ⟨h1, h2⟩ := divInt_low (of_decide_eq_true h.1) (of_decide_eq_true h.2)
    simp only [frd, frQ, h1, h2]
  · cases h
theorem Dq.fr {b : Nat} (h : Dq K p H v d) (hb : frB d = true) (bd : Bd b (frQ d)) : Fr K b (frQ d) v H := by
  have e := frB_iff hb
  generalize frQ d = q at e bd
  subst e
  cases h with
  | tup h hs =>
    cases hs with
    | cons h1 h2 =>
      cases h2 with
      | cons h3 h4 =>
        cases h4
        cases h1
        cases h3
        exact ⟨_, rfl, h, bd⟩
end
end Jf
set_option Elab.async false
set_option linter.all false
set_option maxRecDepth 100000
set_option maxHeartbeats 4000000
namespace Jf
open PySem PySem.Spec PyProof.Rows L2 Evl
/-! ### the end of a law whose def shows data -/
/-- the script, known to its object; else nothing -/
def track (a : Addr) (vs : List Value) (ns : List Int) : Hp := fun b => if b = a then some (.frz { cls := .type "list", data := .seq vs.toArray } (.lst (ns.map V.int))) else none
theorem track_at {a : Addr} {vs : List Value} {ns : List Int} : track a vs ns a = some (.frz { cls := .type "list", data := .seq vs.toArray } (.lst (ns.map V.int))) := if_pos rfl
theorem track_ne {a b : Addr} {vs : List Value} {ns : List Int} (h : b ≠ a) : track a vs ns b = none := if_neg h
/-- what the law's promise is asked at -/
structure Asked (K : PySem.W.Frag) (h : Heap) (a : Addr) (vs : List Value) (ns : List Int) (H : Hp) : Prop where
  known : SqL K H a (ns.map V.int)
  only : ∀ b u, H b = some u → b = a ∧ ∃ o xs, u = .frz o (.lst xs)
  free : ∀ b o, K.lookup b = some o → H b = none
theorem seq_not_dict {h : Heap} {a : Addr} {vs : Array Value} {m : Str → Option Value} (ha : h.get? a = some { cls := .type "list", data := .seq vs }) : ¬ h.Ns a m := by
  rintro ⟨o, es, ep, e, d, _⟩
  rw [ha] at e
  cases e
  cases d
section
variable {P : Program} {w : World} {K : PySem.W.Frag} {mg mb : Str → Option Value} {k : Nat} {fa a : Addr} {fd : FuncData} {x : Str} {sp : Sp} {s₁ : Shared} {vs : List Value} {ns : List Int}
theorem go_law {H : Hp} (S : Asked K s₁.heap a vs ns H) (hok : HOk P w H s₁.heap) (KX : K.In s₁.heap) (hns : s₁.heap.Ns mainGlobals mg) (hb : s₁.heap.Ns builtinsNs mb) (hbb : ∀ x : Str, x ≠ "__name__" → mb x = bootBuiltins x) (hlim : s₁.heap.NoLimit) (hg : s₁.gens = #[])
    (ha : s₁.heap.get? a = some { cls := .type "list", data := .seq vs.toArray }) (hr : Room k callerA)
    (F : ∀ base : Heap, K.In base → base.Ns mainGlobals mg → FnG P w K mg base k fa fd [x] sp) (hbind : ∀ (s : Shared) (u : Value), BindsTo s fd ⟨[u], []⟩ [(x, u)])
    (hsp : sp [.ref a] H (fun v _ => v = .bl true) E0) :
    codeAny (model P w) callerA (.call (.ref fa) ⟨[.ref a], []⟩) (fun r s' => r = .ok (.ret (.bool true)) ∧ PySem.OldK s₁.heap s'.heap ∧ s'.os = s₁.os ∧ AllBare s'.gens) s₁ := by
  have ns_of : ∀ {b : Addr} {m : Str → Option Value}, s₁.heap.Ns b m → (hidT s₁.heap H).Ns b m := by
    intro b m hn
    have hn' := hn
    obtain ⟨o, es, ep, e, r⟩ := hn
    refine ⟨o, es, ep, hidT_get e ?_, r⟩
    cases q : H b with
    | none => rfl
    | some u =>
      obtain ⟨rfl, _⟩ := S.only b u q
      exact absurd hn' (seq_not_dict ha)
  have hKb : K.In (hidT s₁.heap H) := fun b o e => hidT_get (KX b o e) (S.free b o e)
  obtain ⟨mc, l1, l2⟩ := hlim
  have e0 : Env0 P w K mg (hidT s₁.heap H) callerA [] s₁ H := by
    constructor
    · rfl
    · exact ⟨hKb, ns_of hns, ⟨mb, ns_of hb, hbb⟩, ⟨mc, ns_of l1, l2⟩⟩
    · exact fun b o e => of_hidT e
    · exact Nat.le_of_eq (hidT_size _ _)
    · trivial
    · intro b hb
      exact absurd (show b ∈ ([] : List Addr) from hb) (by simp)
    · exact hok
    · exact .of_eq hg
  apply codeAny_mono ((F _ hKb (ns_of hns)).go callerA [] s₁ H ⟨[.ref a], []⟩ [.ref a] [.ref a] _ rfl hr e0 (hbind s₁ (.ref a)) (.cons rfl .nil) hsp)
  intro r s' h
  match r, h with
  | .error _, h => exact False.elim h
  | .ok (.ret u), ⟨v, H', os, bare, un, hok', r', q⟩ =>
    subst q
    obtain rfl : u = Value.bool true := r'
    refine ⟨rfl, PySem.OldK.of_keep ?_, os, bare⟩
    intro b o e
    cases q : H b with
    | none => exact un.keep b o e q (by intro z; exact absurd (show b ∈ ([] : List Addr) from z) (by simp)) (by simp)
    | some u =>
      obtain ⟨rfl, ob, xs, rfl⟩ := S.only b u q
      have q2 := un.frzs b ob _ q
      have e1 := (hok b _ q).1
      have e2 := (hok' b _ q2).1
      rw [e] at e1
      cases e1
      exact e2
theorem law_callG (KX : K.In s₁.heap) (hns : s₁.heap.Ns mainGlobals mg) (hb : s₁.heap.Ns builtinsNs mb) (hbb : ∀ x : Str, x ≠ "__name__" → mb x = bootBuiltins x) (hlim : s₁.heap.NoLimit) (hg : s₁.gens = #[])
    (ha : s₁.heap.get? a = some { cls := .type "list", data := .seq vs.toArray }) (hi : IntsAre vs ns) (hl : ns.length ≤ sizeLine) (hr : Room k callerA)
    (F : ∀ base : Heap, K.In base → base.Ns mainGlobals mg → FnG P w K mg base k fa fd [x] sp) (hbind : ∀ (s : Shared) (u : Value), BindsTo s fd ⟨[u], []⟩ [(x, u)])
    (hsp : ∀ H : Hp, SqL K H a (ns.map V.int) → sp [.ref a] H (fun v _ => v = .bl true) E0) :
    codeAny (model P w) callerA (.call (.ref fa) ⟨[.ref a], []⟩) (fun r s' => r = .ok (.ret (.bool true)) ∧ PySem.OldK s₁.heap s'.heap ∧ s'.os = s₁.os ∧ AllBare s'.gens) s₁ := by
  have rv := vals_ints hi
  cases hk : K.lookup a with
  | some o =>
    have e := KX a o hk
    rw [ha] at e
    cases e
    have known : SqL K (fun _ => none) a (ns.map V.int) := .inr ⟨_, vs.toArray, _, hk, rfl, rfl, rfl, by rw [List.size_toArray, hi.length]; exact hl, by simpa using rv⟩
    exact go_law (H := fun _ => none) ⟨known, (fun _ _ z => nomatch z), (fun _ _ _ => rfl)⟩ (fun _ _ z => nomatch z) KX hns hb hbb hlim hg ha hr F hbind (hsp _ known)
  | none =>
    have known : SqL K (track a vs ns) a (ns.map V.int) := .inl (.inr ⟨_, track_at⟩)
    refine go_law (H := track a vs ns) ⟨known, fun b u z => ?_, fun b o z => track_ne ?_⟩ (fun b u z => ?_) KX hns hb hbb hlim hg ha hr F hbind (hsp _ known)
    · by_cases h : b = a
      · subst h
        rw [track_at] at z
        cases z
        exact ⟨rfl, _, _, rfl⟩
      · rw [track_ne h] at z
        cases z
    · rintro rfl
      rw [hk] at z
      cases z
    · by_cases h : b = a
      · subst h
        rw [track_at] at z
        cases z
        exact ⟨ha, by rw [List.length_map]; exact hl, vs, _, rv, ha⟩
      · rw [track_ne h] at z
        cases z
end
theorem walk_ofG {l : PySem.W.OpenLaw} {n k : Nat} {q : Program} {loose : List Str} {XP : (Str → Option Value) → Heap → Prop} {YP : World → Heap → Prop} {d : DefRec} {K : Params → PySem.W.Frag} {sp : World → Sp} {x : Str}
    (hn : l.most = some n) (hn2 : n ≤ sizeLine) (hdf : d.params.defaults = []) (hr : Room k callerA) (hY : ∀ (w : World) (h : Heap), YP w h → (K w.params).In h)
    (F : ∀ (w : World) (mg : Str → Option Value) (fa : Addr) (h : Heap), (K w.params).In h → h.Ns mainGlobals mg → mg d.name = some (.ref fa) →
      ∃ fd : FuncData, (∀ (s : Shared) (u : Value), BindsTo s fd ⟨[u], []⟩ [(x, u)]) ∧ ∀ base : Heap, (K w.params).In base → base.Ns mainGlobals mg → FnG l.prog w (K w.params) mg base k fa fd [x] (sp w))
    (hsp : ∀ (w : World) (H : Hp) (a : Addr) (ns : List Int), ns.length ≤ n → SqL (K w.params) H a (ns.map V.int) → sp w [.ref a] H (fun v _ => v = .bl true) E0) :
    PySem.W.WalkO q loose XP YP l.row.toRowW d [] (fun f vs => PySem.call f vs) := by
  apply Att.attach_call hn hdf
  intro w s₀ s₁ mg mb fa o pm cd doc a vs ns G Y _ _ _ hmg hobj hints hlen hg
  obtain ⟨fd, hb, hF⟩ := F w mg fa _ (hY w _ Y) G.T.g hmg
  exact law_callG (hY w _ Y) G.T.g G.T.b G.T.builtins G.T.nolimit hg hobj hints (Nat.le_trans hlen hn2) hr hF hb fun H hS => hsp w H a ns hlen hS
end Jf
set_option Elab.async false
set_option linter.all false
set_option maxRecDepth 100000
set_option maxHeartbeats 4000000
namespace Jf
open PySem PySem.Spec PyProof.Rows L2 Evl
/-! ### the end of a law whose def shows data, some defs of which hold generators (cs: their code objects, with the tables) -/
def trackT (cs : List (Addr × Addr)) (H : Hp) : Hp := fun b => if b ∈ cs.map (fun p => p.2) then some (.tbl #[]) else H b
theorem trackT_in {cs : List (Addr × Addr)} {H : Hp} {b : Addr} (h : b ∈ cs.map (fun p => p.2)) : trackT cs H b = some (.tbl #[]) := if_pos h
theorem trackT_out {cs : List (Addr × Addr)} {H : Hp} {b : Addr} (h : b ∉ cs.map (fun p => p.2)) : trackT cs H b = H b := if_neg h
structure AskedT (K : PySem.W.Frag) (cs : List (Addr × Addr)) (a : Addr) (ns : List Int) (H : Hp) : Prop where
  known : SqL K H a (ns.map V.int)
  tbl : ∀ b ∈ cs.map (fun p => p.2), H b = some (.tbl #[])
  only : ∀ b u, H b = some u → b ∈ cs.map (fun p => p.2) ∨ (b = a ∧ ∃ o xs, u = .frz o (.lst xs))
  free : ∀ b o, K.lookup b = some o → H b = none
section
variable {P : Program} {w : World} {K : PySem.W.Frag} {mg mb : Str → Option Value} {k : Nat} {fa a : Addr} {fd : FuncData} {x : Str} {sp : Sp} {s₁ : Shared} {vs : List Value} {ns : List Int} {cs : List (Addr × Addr)}
theorem go_lawT {H : Hp} (S : AskedT K cs a ns H) (hok : HOk P w H s₁.heap) (KX : K.In s₁.heap) (hns : s₁.heap.Ns mainGlobals mg) (hb : s₁.heap.Ns builtinsNs mb) (hbb : ∀ x : Str, x ≠ "__name__" → mb x = bootBuiltins x) (hlim : s₁.heap.NoLimit) (hg : s₁.gens = #[])
    (hT : ∀ p ∈ cs, s₁.heap.get? p.2 = some { cls := .none, data := .fields #[] }) (hC : ∀ p ∈ cs, PySem.W.CodeHd s₁.heap p.1 p.2)
    (hbm : ∃ (bm : Addr) (ob : Obj), mg "__builtins__" = some (.ref bm) ∧ bm ≠ builtinsNs ∧ s₁.heap.get? bm = some ob ∧ ob.cls = .type "module" ∧ ob.dict = some builtinsNs ∧ ob.data = .plain)
    (ha : s₁.heap.get? a = some { cls := .type "list", data := .seq vs.toArray }) (hr : Room k callerA)
    (F : ∀ base : Heap, K.In base → base.Ns mainGlobals mg → (∀ p ∈ cs, GxR.TabB base mg p.1 p.2) → FnG P w K mg base k fa fd [x] sp) (hbind : ∀ (s : Shared) (u : Value), BindsTo s fd ⟨[u], []⟩ [(x, u)])
    (hsp : sp [.ref a] H (fun v _ => v = .bl true) E0) :
    codeAny (model P w) callerA (.call (.ref fa) ⟨[.ref a], []⟩) (fun r s' => r = .ok (.ret (.bool true)) ∧ PySem.OldK s₁.heap s'.heap ∧ s'.os = s₁.os ∧ AllBare s'.gens) s₁ := by
  have atT : ∀ b ∈ cs.map (fun p => p.2), s₁.heap.get? b = some { cls := .none, data := .fields #[] } := by
    intro b h
    obtain ⟨p, hp, rfl⟩ := List.mem_map.mp h
    exact hT p hp
  -- what has other data isn't tracked
  have other : ∀ {b : Addr} {o : Obj}, s₁.heap.get? b = some o → o.data ≠ .fields #[] → (∀ us n, o.data ≠ .seq us n) → H b = none := by
    intro b o e n1 n2
    cases q : H b with
    | none => rfl
    | some u =>
      rcases S.only b u q with z | ⟨rfl, _⟩
      · rw [atT b z] at e
        cases e
        exact absurd rfl n1
      · rw [ha] at e
        cases e
        exact absurd rfl (n2 _ _)
  have base_ns : ∀ {b : Addr} {m : Str → Option Value}, s₁.heap.Ns b m → (hidT s₁.heap H).Ns b m := by
    rintro b m ⟨o, es, ep, e, d, r⟩
    exact ⟨o, es, ep, hidT_get e (other e (by rw [d]; exact fun z => nomatch z) fun us n z => by rw [d] at z; cases z), d, r⟩
  have hKb : K.In (hidT s₁.heap H) := fun b o e => hidT_get (KX b o e) (S.free b o e)
  have TB : ∀ p ∈ cs, GxR.TabB (hidT s₁.heap H) mg p.1 p.2 := by
    intro p hp
    have tp := hT p hp
    obtain ⟨o, us, file, tf, flags, tg, inF, text, tt, c1, c2, c3, c4, c5⟩ := hC p hp
    obtain ⟨bm, ob, b1, b2, b3, b4, b5, b6⟩ := hbm
    constructor
    · refine ⟨o, us, file, tf, flags, tg, inF, text, tt, hidT_get c1 (other c1 (fun z => ?_) fun us n z => ?_), c2, c3, c4, c5⟩
      · rw [c3] at z
        cases z
        simp at c4
      · rw [c3] at z
        cases z
    · refine ⟨bm, ob, b1, b2, fun z => ?_, fun z => ?_, hidT_get b3 (other b3 (by rw [b6]; exact fun z => nomatch z) fun us n z => by rw [b6] at z; cases z), b4, b5, b6⟩
      · obtain ⟨o2, es, ep, e, d, _⟩ := hns
        rw [z, e] at b3
        cases b3
        rw [d] at b6
        cases b6
      · rw [z, tp] at b3
        cases b3
        cases b6
    · intro z
      obtain ⟨o2, es, ep, e, d, _⟩ := hns
      rw [z, tp] at e
      cases e
      cases d
  obtain ⟨mc, l1, l2⟩ := hlim
  have e0 : Env0 P w K mg (hidT s₁.heap H) callerA [] s₁ H := by
    constructor
    · rfl
    · exact ⟨hKb, base_ns hns, ⟨mb, base_ns hb, hbb⟩, ⟨mc, base_ns l1, l2⟩⟩
    · exact fun b o e => of_hidT e
    · exact Nat.le_of_eq (hidT_size _ _)
    · trivial
    · intro b hb
      exact absurd (show b ∈ ([] : List Addr) from hb) (by simp)
    · exact hok
    · exact .of_eq hg
  apply codeAny_mono ((F _ hKb (base_ns hns) TB).go callerA [] s₁ H ⟨[.ref a], []⟩ [.ref a] [.ref a] _ rfl hr e0 (hbind s₁ (.ref a)) (.cons rfl .nil) hsp)
  intro r s' h
  match r, h with
  | .error _, h => exact False.elim h
  | .ok (.ret u), ⟨v, H', os, bare, un, hok', r', q⟩ =>
    subst q
    obtain rfl : u = Value.bool true := r'
    have same : ∀ b o, b ∉ cs.map (fun p => p.2) → s₁.heap.get? b = some o → s'.heap.get? b = some o := by
      intro b o nb e
      cases q : H b with
      | none => exact un.keep b o e q (by intro z; exact absurd (show b ∈ ([] : List Addr) from z) (by simp)) (by simp)
      | some u =>
        rcases S.only b u q with z | ⟨rfl, ob, xs, rfl⟩
        · exact absurd z nb
        · have q2 := un.frzs b ob _ q
          have e1 := (hok b _ q).1
          have e2 := (hok' b _ q2).1
          rw [e] at e1
          cases e1
          exact e2
    have more : ∀ b ∈ cs.map (fun p => p.2), ∃ m : Array Value, s'.heap.get? b = some { cls := .none, data := .fields m } := by
      intro b h
      obtain ⟨m, z⟩ := un.tbls b #[] (S.tbl b h)
      exact ⟨_, hok' b _ z⟩
    refine ⟨rfl, ⟨fun b o e => ?_, fun b o e => ?_⟩, os, bare⟩
    · by_cases h : b ∈ cs.map (fun p => p.2)
      · obtain ⟨m, z⟩ := more b h
        obtain ⟨p, hp, rfl⟩ := List.mem_map.mp h
        rw [hT p hp] at e
        cases e
        exact .inr (.inl ⟨((hC p hp).tab (hT p hp)).isCodeTable, rfl, #[], m, rfl, by rw [Array.empty_append]; exact z⟩)
      · exact .inl (same b o h e)
    · by_cases h : b ∈ cs.map (fun p => p.2)
      · obtain ⟨m, z⟩ := more b h
        exact ⟨_, z⟩
      · exact ⟨o, same b o h e⟩
theorem law_callGT (KX : K.In s₁.heap) (hns : s₁.heap.Ns mainGlobals mg) (hb : s₁.heap.Ns builtinsNs mb) (hbb : ∀ x : Str, x ≠ "__name__" → mb x = bootBuiltins x) (hlim : s₁.heap.NoLimit) (hg : s₁.gens = #[])
    (hT : ∀ p ∈ cs, s₁.heap.get? p.2 = some { cls := .none, data := .fields #[] }) (nT : ∀ p ∈ cs, K.lookup p.2 = none) (hC : ∀ p ∈ cs, PySem.W.CodeHd s₁.heap p.1 p.2)
    (hbm : ∃ (bm : Addr) (ob : Obj), mg "__builtins__" = some (.ref bm) ∧ bm ≠ builtinsNs ∧ s₁.heap.get? bm = some ob ∧ ob.cls = .type "module" ∧ ob.dict = some builtinsNs ∧ ob.data = .plain)
    (ha : s₁.heap.get? a = some { cls := .type "list", data := .seq vs.toArray }) (hi : IntsAre vs ns) (hl : ns.length ≤ sizeLine) (hr : Room k callerA)
    (F : ∀ base : Heap, K.In base → base.Ns mainGlobals mg → (∀ p ∈ cs, GxR.TabB base mg p.1 p.2) → FnG P w K mg base k fa fd [x] sp) (hbind : ∀ (s : Shared) (u : Value), BindsTo s fd ⟨[u], []⟩ [(x, u)])
    (hsp : ∀ H : Hp, (∀ p ∈ cs, H p.2 = some (.tbl #[])) → SqL K H a (ns.map V.int) → sp [.ref a] H (fun v _ => v = .bl true) E0) :
    codeAny (model P w) callerA (.call (.ref fa) ⟨[.ref a], []⟩) (fun r s' => r = .ok (.ret (.bool true)) ∧ PySem.OldK s₁.heap s'.heap ∧ s'.os = s₁.os ∧ AllBare s'.gens) s₁ := by
  have rv := vals_ints hi
  have atT : ∀ b ∈ cs.map (fun p => p.2), s₁.heap.get? b = some { cls := .none, data := .fields #[] } := by
    intro b h
    obtain ⟨p, hp, rfl⟩ := List.mem_map.mp h
    exact hT p hp
  have nK : ∀ b ∈ cs.map (fun p => p.2), K.lookup b = none := by
    intro b h
    obtain ⟨p, hp, rfl⟩ := List.mem_map.mp h
    exact nT p hp
  have na : a ∉ cs.map (fun p => p.2) := fun z => by
    have q := atT a z
    rw [ha] at q
    cases q
  have inT : ∀ p ∈ cs, p.2 ∈ cs.map (fun p => p.2) := fun p hp => List.mem_map.mpr ⟨p, hp, rfl⟩
  cases hk : K.lookup a with
  | some o =>
    have e := KX a o hk
    rw [ha] at e
    cases e
    have known : SqL K (trackT cs fun _ => none) a (ns.map V.int) := .inr ⟨_, vs.toArray, _, hk, rfl, rfl, rfl, by rw [List.size_toArray, hi.length]; exact hl, by simpa using rv⟩
    refine go_lawT (H := trackT cs fun _ => none) ⟨known, fun b h => trackT_in h, fun b u z => ?_, fun b o z => ?_⟩ (fun b u z => ?_) KX hns hb hbb hlim hg hT hC hbm ha hr F hbind (hsp _ (fun p hp => trackT_in (inT p hp)) known)
    · by_cases h : b ∈ cs.map (fun p => p.2)
      · exact .inl h
      · rw [trackT_out h] at z
        cases z
    · exact trackT_out fun h => by rw [nK b h] at z; cases z
    · by_cases h : b ∈ cs.map (fun p => p.2)
      · rw [trackT_in h] at z
        cases z
        exact atT b h
      · rw [trackT_out h] at z
        cases z
  | none =>
    have at_a : trackT cs (track a vs ns) a = some (.frz { cls := .type "list", data := .seq vs.toArray } (.lst (ns.map V.int))) := (trackT_out na).trans track_at
    have known : SqL K (trackT cs (track a vs ns)) a (ns.map V.int) := .inl (.inr ⟨_, at_a⟩)
    refine go_lawT (H := trackT cs (track a vs ns)) ⟨known, fun b h => trackT_in h, fun b u z => ?_, fun b o z => ?_⟩ (fun b u z => ?_) KX hns hb hbb hlim hg hT hC hbm ha hr F hbind (hsp _ (fun p hp => trackT_in (inT p hp)) known)
    · by_cases h : b ∈ cs.map (fun p => p.2)
      · exact .inl h
      · rw [trackT_out h] at z
        by_cases h2 : b = a
        · subst h2
          rw [track_at] at z
          cases z
          exact .inr ⟨rfl, _, _, rfl⟩
        · rw [track_ne h2] at z
          cases z
    · refine (trackT_out fun h => ?_).trans (track_ne ?_)
      · rw [nK b h] at z
        cases z
      · rintro rfl
        rw [hk] at z
        cases z
    · by_cases h : b ∈ cs.map (fun p => p.2)
      · rw [trackT_in h] at z
        cases z
        exact atT b h
      · rw [trackT_out h] at z
        by_cases h2 : b = a
        · subst h2
          rw [track_at] at z
          cases z
          exact ⟨ha, by rw [List.length_map]; exact hl, vs, _, rv, ha⟩
        · rw [track_ne h2] at z
          cases z
end
/-- the table of code objects of the def y, as the top leaves it: empty -/
def TabE (K : PySem.W.Frag) (y : Str) (mg : Str → Option Value) (h : Heap) : Prop := ∀ (f c T : Addr) (o : Obj) (fd : FuncData) (e : Value) (dd : Option Addr) (us : Array Value) (sl : Array (Option Value)),
  mg y = some (.ref f) → K.lookup f = some o → o.data = .func fd → fd.code = .ref c → K.lookup c = some ⟨e, dd, .fields us, sl⟩ → us[11]? = some (.ref T) → h.get? T = some { cls := .none, data := .fields #[] }
theorem walk_ofGT {l : PySem.W.OpenLaw} {n k : Nat} {q : Program} {loose : List Str} {XP : (Str → Option Value) → Heap → Prop} {YP : World → Heap → Prop} {d : DefRec} {K : Params → PySem.W.Frag} {sp : World → Sp} {x y : Str}
    (hn : l.most = some n) (hn2 : n ≤ sizeLine) (hdf : d.params.defaults = []) (hr : Room k callerA) (hrec : ((recsOf q).any fun e => e.name == y) = true) (hY : ∀ (w : World) (h : Heap), YP w h → (K w.params).In h)
    (F : ∀ (w : World) (mg : Str → Option Value) (fa : Addr) (h : Heap), (K w.params).In h → h.Ns mainGlobals mg → mg d.name = some (.ref fa) → TabE (K w.params) y mg h →
      ∃ (fd : FuncData) (cs : List (Addr × Addr)), (∀ p ∈ cs, h.get? p.2 = some { cls := .none, data := .fields #[] }) ∧ (∀ p ∈ cs, (K w.params).lookup p.2 = none) ∧ (∀ p ∈ cs, PySem.W.CodeHd h p.1 p.2) ∧ (∀ (s : Shared) (u : Value), BindsTo s fd ⟨[u], []⟩ [(x, u)]) ∧
        (∀ (H : Hp) (a : Addr) (ns : List Int), ns.length ≤ n → (∀ p ∈ cs, H p.2 = some (.tbl #[])) → SqL (K w.params) H a (ns.map V.int) → sp w [.ref a] H (fun v _ => v = .bl true) E0) ∧
        ∀ base : Heap, (K w.params).In base → base.Ns mainGlobals mg → (∀ p ∈ cs, GxR.TabB base mg p.1 p.2) → FnG l.prog w (K w.params) mg base k fa fd [x] (sp w)) :
    PySem.W.WalkO q loose XP YP l.row.toRowW d [] (fun f vs => PySem.call f vs) := by
  apply Att.attach_call hn hdf
  intro w s₀ s₁ mg mb fa o pm cd doc a vs ns G Y _ _ _ hmg hobj hints hlen hg
  have KX := hY w _ Y
  have empty : TabE (K w.params) y mg s₁.heap := by
    intro f c T o1 fd1 e dd us sl k0 k1 k2 k3 k4 k5
    obtain ⟨dL, mem, nm⟩ := List.any_eq_true.mp hrec
    obtain ⟨a2, o2, fd2, c2, T2, h1, h2, h3, h4, _, ⟨oc, vc, t1, _, t3, t4⟩, hT⟩ := G.T.tab dL mem
    rw [beq_iff_eq.mp nm, k0] at h1
    cases h1
    rw [KX _ _ k1] at h2
    cases h2
    rw [k2] at h3
    cases h3
    rw [k3] at h4
    cases h4
    rw [KX _ _ k4] at t1
    cases t1
    cases t3
    rw [k5] at t4
    cases t4
    exact hT
  obtain ⟨fd, cs, hT, nT, hC, hb, hsp, hF⟩ := F w mg fa _ KX G.T.g hmg empty
  exact law_callGT KX G.T.g G.T.b G.T.builtins G.T.nolimit hg hT nT hC G.T.bmain hobj hints (Nat.le_trans hlen hn2) hr hF hb fun H hH hS => hsp H a ns hlen hH hS
theorem walk_ofGK {l : PySem.W.OpenLaw} {n k : Nat} {q : Program} {loose : List Str} {XP : (Str → Option Value) → Heap → Prop} {YP : World → Heap → Prop} {d : DefRec} {K : Params → PySem.W.Frag} {sp : PySem.W.Frag → Addr → Sp} {PA : Addr} {x y : Str}
    (hn : l.most = some n) (hn2 : n ≤ sizeLine) (hdf : d.params.defaults = []) (hr : Room k callerA) (hrec : ((recsOf q).any fun e => e.name == y) = true) (hY : ∀ (w : World) (h : Heap), YP w h → (K w.params).In h)
    (F : ∀ (w : World) (mg : Str → Option Value) (fa : Addr) (h : Heap), (K w.params).In h → h.Ns mainGlobals mg → mg d.name = some (.ref fa) → TabE (K w.params) y mg h →
      ∃ (fd : FuncData) (cs : List (Addr × Addr)), (∀ p ∈ cs, h.get? p.2 = some { cls := .none, data := .fields #[] }) ∧ (∀ p ∈ cs, (K w.params).lookup p.2 = none) ∧ (∀ p ∈ cs, PySem.W.CodeHd h p.1 p.2) ∧ (∀ (s : Shared) (u : Value), BindsTo s fd ⟨[u], []⟩ [(x, u)]) ∧
        (∀ (H : Hp) (a : Addr) (ns : List Int), ns.length ≤ n → (∀ p ∈ cs, H p.2 = some (.tbl #[])) → SqL (K w.params) H a (ns.map V.int) → sp (K w.params) PA [.ref a] H (fun v _ => v = .bl true) E0) ∧
        ∀ base : Heap, (K w.params).In base → base.Ns mainGlobals mg → (∀ p ∈ cs, GxR.TabB base mg p.1 p.2) → FnG l.prog w (K w.params) mg base k fa fd [x] (sp (K w.params) PA)) :
    PySem.W.WalkO q loose XP YP l.row.toRowW d [] (fun f vs => PySem.call f vs) :=
  walk_ofGT (sp := fun w => sp (K w.params) PA) hn hn2 hdf hr hrec hY F
end Jf
set_option Elab.async false
set_option linter.all false
set_option maxRecDepth 100000
set_option maxHeartbeats 4000000
namespace Jf
open PySem PySem.Spec PyProof.Rows L2 Evl
/-! ### sum of a generator over a list of pairs of ints, with one captured int -/
/-- the generator's own scope: two names, one captured -/
structure GenT (scope : Scope) (xa xb xc : Str) : Prop where
  kind : scope.kind = .function
  co : scope.isCoroutine = false
  cell : ∀ y ∈ scope.names, y.2 ≠ .cell
  dot : scope.names.lookup (".0" : Str) = some NameKind.local
  la : scope.names.lookup xa = some .local
  lb : scope.names.lookup xb = some .local
  lc : scope.names.lookup xc = some .free
  ne : xa ≠ xb
  only : ∀ y ∈ scope.names, y.2 = .free → y.1 = xc
  clo : ∀ cells : List (Str × Addr), (cloFrom cells scope.names []).lookup xc = some ((cells.lookup xc).getD 0)
/-- the element: an int of the two and the captured one -/
def EltT (prog : Program) (w : World) (scope : Scope) (xa xb xc : Str) (elt : Expr) (ok : Int → Int → Int → Prop) (g : Int → Int → Int → Int) : Prop :=
  ∀ (cenv : Env) (B : Around) (E : Value → Shared → Prop) (a b d : Int) (ta tb td : Tok) (c : Addr) (s : Shared) (m : Str → Option Value), cenv.scope = scope → ok a b d → s.heap.Ns cenv.locals m → m xa = some (.int a ta) → m xb = some (.int b tb) →
    cenv.cells.lookup xc = some c → s.heap.IsCell c (some (.int d td)) → wpAny (model prog w) B (eval elt cenv) (fun y s1 => (∃ t, y = .int (g a b d) t) ∧ Keeps s s1) E s
abbrev Prs := List (Addr × Int × Int)
def valP (ps : Prs) (d : Int) (g : Int → Int → Int → Int) (j : Nat) : Int := match ps[j]? with
  | some p => g p.2.1 p.2.2 d
  | none => 0
theorem valP_some {ps : Prs} {d : Int} {g : Int → Int → Int → Int} {j : Nat} {p : Addr × Int × Int} (h : ps[j]? = some p) : valP ps d g j = g p.2.1 p.2.2 d := by
  unfold valP
  rw [h]
def sumP (ps : Prs) (d : Int) (g : Int → Int → Int → Int) : Int := (ps.map fun p => g p.2.1 p.2.2 d).sum
theorem preSum_sumP (ps : Prs) (d : Int) (g : Int → Int → Int → Int) : preSum (valP ps d g) ps.length = sumP ps d g := by
  have step : ∀ n, n ≤ ps.length → preSum (valP ps d g) n = sumP (ps.take n) d g := by
    intro n
    induction n with
    | zero => intro _; rfl
    | succ n ih =>
      intro h
      have hn : n < ps.length := h
      have e := List.getElem?_eq_getElem hn
      show preSum (valP ps d g) n + valP ps d g n = _
      rw [ih (Nat.le_of_lt hn), valP_some e, List.take_succ, e]
      unfold sumP
      simp only [Option.toList_some, List.map_append, List.sum_append, List.map_cons, List.map_nil, List.sum_cons, List.sum_nil, Int.add_zero]
  rw [step _ (Nat.le_refl _), List.take_length]
section
variable {X : Cx} {pins : List (Addr × Obj)} {σ : L2.St} {H : Hp} {s : Shared}
/-- the generator's code: found in the def's table, or put there -/
theorem gcode {env : Env} {scope : Scope} {gpos : Pos} {nm : Str} {c P : Addr} {tb : Array Value} {s2 : Shared} {prog : Program} {w : World} {A : Around} {E : Value → Shared → Prop} {Ψ : Value → Shared → Prop} (hcode : env.code = .ref c)
    (cd : PySem.W.CodeHd s2.heap c P) (hP : s2.heap.get? P = some { cls := .none, data := .fields tb }) (ht : TriplesOk tb.toList)
    (rest : ∀ (code : Value) (h3 : Heap) (n3 : Nat) (tb3 : Array Value), Heap.ExtBut P s2.heap h3 → s2.heap.objs.size ≤ h3.objs.size → h3.get? P = some { cls := .none, data := .fields tb3 } → (∃ more, tb3 = tb ++ more) → TriplesOk tb3.toList → Ψ code { s2 with heap := h3, toks := n3 }) :
    wpAny (model prog w) A (genexprCode env gpos nm scope) Ψ E s2 := by
  cases found : codeAmong gpos tb.toList with
  | some cv =>
    apply wpAny_genexprCode_hit hcode (cd.code hP ht) found
    exact rest cv s2.heap s2.toks tb (Heap.ExtBut.refl _ _) (Nat.le_refl _) hP ⟨#[], by simp⟩ ht
  | none =>
    apply wpAny_genexprCodeX hcode (cd.code hP ht) (cd.tab hP) found
    intro c' h' n' hx ge lt co _ tab _
    obtain ⟨_, _, _, _, _, _, _, _, _, _, _, _, _, _, _, _, _, _, _, tr, _⟩ := co
    exact rest _ h' n' _ hx (Nat.le_trans ge (Nat.le_of_lt lt)) tab.2 ⟨_, rfl⟩ tr
/-- ready to be walked -/
def ReadyP (X : Cx) (pins : List (Addr × Obj)) (σ : L2.St) (H1 : Hp) (P : Addr) (ps : Prs) (d : Int) (g : Int → Int → Int → Int) (a : Addr) (s5 : Shared) : Prop :=
  ∃ (fp wr : List Addr) (G : Array GenState → Array GenState → Prop) (F : Nat → Value → Prop) (St : Nat → Shared → Prop),
    WalksS X.prog X.w X.A.in1 a fp wr G ps.length F St ∧ St 0 s5 ∧ (∀ b ∈ fp, b < s5.heap.objs.size) ∧ (∀ j v, F j v → ∃ t, v = .int (valP ps d g j) t) ∧ ∀ s', Moved wr G s5 s' → ∃ H2, GxR.Tabbed P H1 H2 ∧ Inv X pins σ H2 s'
/-- what the walked list holds -/
def PrsAt (K : PySem.W.Frag) (H : Hp) (yl : Addr) (ps : Prs) : Prop := SqL K H yl (ps.map fun p => V.ref p.1) ∧ ∀ p ∈ ps, SqT K H p.1 [.int p.2.1, .int p.2.2]
theorem gen_prs {c P : Addr} {elt iter : Expr} {xa xb xc : Str} {pa pb pt gpos : Pos} {kt ic k : Nat} {scope : Scope} {ok : Int → Int → Int → Prop} {g : Int → Int → Int → Int} {te : TE} {Q' : Value → Shared → Prop} {R : Prs → Int → Hp → Prop}
    (hr : Room k X.A) (TB : GxR.TabB X.base X.mg c P) (hcode : X.env.code = .ref c) (S : GenT scope xa xb xc) (hN : X.N[ic]? = some xc) (hk : X.env.kindOf xc = some .cell) (hi : PE X iter te) (hel : EltT X.prog X.w scope xa xb xc elt ok g)
    (hs : ∀ v, genFold iter X.env v = pure v) (I : Inv X pins σ H s)
    (h : te σ H fun v H1 => ∃ (yl : Addr) (ps : Prs) (d : Int), v = .ref yl ∧ PrsAt X.K H1 yl ps ∧ (∀ p ∈ ps, ok p.2.1 p.2.2 d) ∧ σ[ic]? = some (some (.int d)) ∧ GxR.TabG H1 P ∧ R ps d H1)
    (hQ : ∀ ps d H1 a s5, R ps d H1 → ReadyP X pins σ H1 P ps d g a s5 → Q' (.ref a) s5) :
    wpAny (model X.prog X.w) X.A (eval (.GeneratorExp elt [⟨.Tuple [.Name xa pa, .Name xb pb] kt pt, iter, [], 0⟩] scope gpos) X.env) Q' X.xe s := by
  obtain ⟨cc, hcc⟩ := I.ok.has xc (.inl hk)
  have hfree : ∀ y ∈ scope.names, y.2 = .free → ∃ c, X.env.cells.lookup y.1 = some c := fun y hy hf => ⟨cc, by rw [S.only y hy hf]; exact hcc⟩
  have hclo : (cloFrom X.env.cells scope.names []).lookup xc = some cc := by rw [S.clo, hcc]; rfl
  apply wpAny_GeneratorExp_walksQT hr.hd S.co (closure_ok hfree) S.cell S.dot S.la S.lb S.ne S.kind (by have := hr.dp; omega) (hs := hs)
  apply thn (hi.run pins s σ H _ I h)
  rintro xv s1 ⟨v, H1, I1, r1, yl, ps, d, rfl, ⟨hyl, hT⟩, hok, hd, ⟨tb, hP, ht⟩, q1⟩
  obtain rfl : xv = Value.ref yl := r1
  obtain ⟨its, rv, pl, hz⟩ := I1.list hyl
  have lst := pl.isList
  have nits : its.length = ps.length := by rw [← rv.length, List.length_map]
  have iat : ∀ (j : Nat) (p : Addr × Int × Int), ps[j]? = some p → its[j]? = some (Value.ref p.1) := by
    intro j p hp
    have e : (ps.map fun (p : Addr × Int × Int) => V.ref p.1)[j]? = some (V.ref p.1) := by rw [List.getElem?_map, hp]; rfl
    obtain ⟨u, hu, ru⟩ := rv.get e
    cases (show u = Value.ref p.1 from ru)
    exact hu
  have tup : ∀ j : Nat, ∃ uv : Tok × Tok, ∀ p : Addr × Int × Int, ps[j]? = some p → s1.heap.IsTuple p.1 #[.int p.2.1 uv.1, .int p.2.2 uv.2] := by
    intro j
    cases hj : ps[j]? with
    | none => exact ⟨(0, 0), fun p z => nomatch z⟩
    | some p =>
      obtain ⟨ts, tv, ⟨o, e1, e2, n, e3⟩, _⟩ := I1.tuple (hT p (List.mem_of_getElem? hj))
      cases tv with
      | cons ra rb =>
        cases rb with
        | cons rb rc =>
          cases rc
          obtain ⟨u, rfl⟩ := _root_.id ra
          obtain ⟨v, rfl⟩ := _root_.id rb
          refine ⟨(u, v), fun q z => ?_⟩
          cases z
          exact ⟨o, e1, e2, n, e3⟩
  obtain ⟨tk, htk⟩ := Classical.skolem.mp tup
  obtain ⟨uc, td, huc⟩ : ∃ (uc : Value) (td : Tok), uc = .int d td ∧ s1.heap.IsCell cc (some uc) := by
    obtain ⟨m, _, hm⟩ := I1.loc
    obtain ⟨u, ru, lk⟩ := hm ic xc (.int d) hN hd (.inr (.inl hk))
    obtain ⟨td, rfl⟩ := _root_.id ru
    rcases lk with ⟨z, _⟩ | ⟨_, c2, e2, hc2⟩
    · rw [hk] at z
      cases z
    · rw [hcc] at e2
      cases e2
      exact ⟨_, td, rfl, hc2⟩
  obtain ⟨rfl, hcell⟩ := huc
  let Ts : Nat → Addr := fun j => ((ps[j]?).map fun (p : Addr × Int × Int) => p.1).getD 0
  let vs : Nat → Array Value := fun j => ((ps[j]?).map fun (p : Addr × Int × Int) => (#[.int p.2.1 (tk j).1, .int p.2.2 (tk j).2] : Array Value)).getD #[.none, .none]
  have pat : ∀ j, j < its.toArray.size → ∃ p : Addr × Int × Int, ps[j]? = some p := fun j hj => by
    have : j < ps.length := by simpa [nits] using hj
    exact ⟨ps[j], List.getElem?_eq_getElem this⟩
  have tsT : ∀ j, j < its.toArray.size → s1.heap.IsTuple (Ts j) (vs j) := fun j hj => by
    obtain ⟨p, e⟩ := pat j hj
    have := htk j p e
    simpa only [Ts, vs, e, Option.map_some, Option.getD_some] using this
  have tlt : ∀ j, j < its.toArray.size → Ts j < s1.heap.objs.size := fun j hj => by
    obtain ⟨_, e, _⟩ := tsT j hj
    exact Heap.lt_size e
  have hit : ∀ j, j < its.toArray.size → its.toArray[j]? = some (.ref (Ts j)) := fun j hj => by
    obtain ⟨p, e⟩ := pat j hj
    have := iat j p e
    simpa only [Ts, e, Option.map_some, Option.getD_some, List.getElem?_toArray] using this
  have ylt : yl < s1.heap.objs.size := by
    obtain ⟨_, e, _⟩ := _root_.id lst
    exact Heap.lt_size e
  have WW := fun (B : Around) (hB : B.handled = none) => (WalksU.listOfTuples (prog := X.prog) (w := X.w) hB s1.heap.objs.size yl (Nat.ne_of_lt ylt) its.toArray Ts vs hit fun j hj => Nat.ne_of_lt (tlt j hj)).bound
  apply wpAny_pyIter_list lst
  generalize ho : ({ cls := .type "list_iterator", data := .fields #[.ref yl, .int 0 0] } : Obj) = it0
  have iter0 : (s1.heap.push it0).IsListIter s1.heap.objs.size yl 0 := by
    subst ho
    exact ⟨_, Heap.get?_push_size _ rfl, rfl, rfl⟩
  have old : ∀ b u, s1.heap.get? b = some u → (s1.heap.push it0).get? b = some u := fun b u e => Heap.get?_push_of_some _ e
  have tabS : s1.heap.get? P = some { cls := .none, data := .fields tb } := I1.hok P _ hP
  have Plt : P < s1.heap.objs.size := Heap.lt_size tabS
  have lim2 : (s1.heap.push it0).NoLimit := I1.nolimit.push it0
  refine ⟨lim2, ?_⟩
  refine gcode (s2 := { s1 with heap := s1.heap.push it0 }) hcode (TB.code.keeps fun b u e => old b u (I1.bk b u e)) (old _ _ tabS) ht fun code h3 n3 tb3 hx hsz hP3 hmore ht3 => ?_
  obtain ⟨bm, ob, e1, e2, e3, e4, e5, e6, e7, e8⟩ := TB.bm
  have keep3 : ∀ b u, b ≠ P → s1.heap.get? b = some u → h3.get? b = some u := fun b u hb e => hx b u hb (old b u e)
  have sz3 : s1.heap.objs.size < h3.objs.size := by
    have e : (s1.heap.push it0).objs.size = s1.heap.objs.size + 1 := Heap.size_push ..
    have hsz' : (s1.heap.push it0).objs.size ≤ h3.objs.size := hsz
    omega
  have cP : cStatics ≠ P := fun e => by
    obtain ⟨_, hns, _⟩ := I1.nolimit
    obtain ⟨o', es, ep, ho', hd', _⟩ := hns
    rw [e, tabS] at ho'
    cases ho'
    cases hd'
  have clt : cStatics < s1.heap.objs.size := by
    obtain ⟨_, hns, _⟩ := I1.nolimit
    exact hns.lt
  apply wpAny_builtinsFor (m := X.mg) (by rw [I1.ok.glob]; exact ((I1.mod.glob.keeps I1.bk).push it0).extBut hx TB.gP) e1 e2 (keep3 _ _ e4 (I1.bk _ _ e5)) e6 e7 e8
  have yP : yl ≠ P := fun z => by
    obtain ⟨_, e, hc1, _, hd1⟩ := _root_.id lst
    rw [z, tabS] at e
    cases e
    cases hd1
  have tP : ∀ j, j < its.toArray.size → Ts j ≠ P := fun j hj z => by
    obtain ⟨_, e, hc1, _⟩ := tsT j hj
    rw [z, tabS] at e
    cases e
    cases hc1
  have ccP : cc ≠ P := fun z => by
    obtain ⟨o, e, hc1⟩ := _root_.id hcell
    rw [z, tabS] at e
    cases e
    cases hc1
  have cclt : cc < s1.heap.objs.size := by
    obtain ⟨o, e, _⟩ := _root_.id hcell
    exact Heap.lt_size e
  have lst3 : h3.IsList yl its.toArray := by
    obtain ⟨ob, e, r⟩ := _root_.id lst
    exact ⟨ob, keep3 _ _ yP e, r⟩
  have iter3 : h3.IsListIter s1.heap.objs.size yl 0 := iter0.at fun u e => hx _ u (Nat.ne_of_gt Plt) e
  have ts3 : ∀ j, j < its.toArray.size → h3.IsTuple (Ts j) (vs j) := fun j hj => (tsT j hj).at fun o e => keep3 _ _ (tP j hj) e
  have cell3 : h3.IsCell cc (some (.int d td)) := by
    obtain ⟨o, e, r⟩ := _root_.id hcell
    exact ⟨o, keep3 _ _ ccP e, r⟩
  refine ⟨s1.heap.objs.size, _, _, _, _, _, _, (fun _ => true), (fun i y => ∃ (p : Addr × Int × Int) (t : Tok), ps[i]? = some p ∧ y = .int (g p.2.1 p.2.2 d) t), rfl, WW, ?_, ⟨iter3, lst3, ts3⟩, ?_, lim2.extBut hx cP, ?_, ?_, ?_⟩
  · rintro i v ⟨hi, rfl⟩
    obtain ⟨p, e⟩ := pat i hi
    exact ⟨.int p.2.1 (tk i).1, .int p.2.2 (tk i).2, by simp only [vs, e, Option.map_some, Option.getD_some]⟩
  · intro b hb
    show b < h3.objs.size
    rcases List.mem_cons.mp hb with rfl | hb
    · exact sz3
    · rcases List.mem_cons.mp hb with rfl | hb
      · exact Nat.lt_trans ylt sz3
      · obtain ⟨j, hj, rfl⟩ := List.mem_map.mp hb
        exact Nat.lt_trans (tlt j (List.mem_range.mp hj)) sz3
  · intro z
    rcases List.mem_cons.mp z with z | z
    · exact Nat.ne_of_lt clt z
    · cases z
  · intro href hhref
    refine ⟨fun B E' i va vb s₂ m₂ hB hPv hn ha hb hk => ?_, fun B E' i va vb s₂ m₂ hB hPv hp hn ha hb hk => ?_⟩
    · simp only [List.forIn_nil]
      exact wpAny_pure ⟨rfl, GxR.keeps_refl _⟩
    · obtain ⟨hi, ev⟩ := hPv
      obtain ⟨p, e⟩ := pat i hi
      simp only [vs, e, Option.map_some, Option.getD_some] at ev
      obtain ⟨rfl, rfl⟩ : va = .int p.2.1 (tk i).1 ∧ vb = .int p.2.2 (tk i).2 := by simpa using congrArg Array.toList ev
      have c2 : s₂.heap.IsCell cc (some (.int d td)) := by
        obtain ⟨o, e9, r⟩ := _root_.id cell3
        refine ⟨o, hk cc ?_ ?_ o (hhref _ _ e9), r⟩
        · exact List.mem_range.mpr (Nat.lt_trans cclt sz3)
        · intro z
          rcases List.mem_cons.mp z with z | z
          · exact Nat.ne_of_lt cclt z
          · cases z
      exact wpAny_mono (hel _ B E' p.2.1 p.2.2 d _ _ td cc s₂ m₂ rfl (hok p (List.mem_of_getElem? e)) hn ha hb hclo c2) (fun y s3 r => ⟨⟨p, r.1.choose, e, r.1.choose_spec⟩, r.2⟩) fun _ _ e => e
  · intro a h5 n5 gs bare gt hsz5 hk5 W5 at5
    simp only [GxR.passing_true, List.length_range] at W5
    have nI : its.toArray.size = ps.length := by rw [List.size_toArray, nits]
    rw [nI] at W5 at5
    refine hQ ps d H1 a _ q1 ⟨_, _, _, _, _, W5.in4_1, at5, ?_, fun j v hv => ?_, fun s' mv => ?_⟩
    · intro b hb
      show b < h5.objs.size
      have e5 : h5.objs.size = a + 1 := hsz5
      have e3 : h3.objs.size < a := gt
      rw [e5]
      rcases List.mem_cons.mp hb with rfl | hb
      · exact Nat.lt_succ_self _
      · rcases List.mem_cons.mp hb with rfl | hb
        · exact Nat.lt_succ_of_lt e3
        · exact Nat.lt_succ_of_lt (Nat.lt_trans (show b < h3.objs.size from List.mem_range.mp hb) e3)
    · obtain ⟨i, hij, p, t, e, rfl⟩ := hv
      obtain ⟨hj, ej⟩ := List.getElem?_eq_some_iff.mp hij
      rw [List.getElem_range] at ej
      subst ej
      exact ⟨t, by rw [valP_some e]⟩
    · obtain ⟨more, em⟩ := hmore
      have apart : ∀ b u, s1.heap.get? b = some u → b ∉ h3.objs.size :: [s1.heap.objs.size] := by
        intro b u e hb
        have l := Heap.lt_size e
        rcases List.mem_cons.mp hb with z | z
        · rw [z] at l
          exact Nat.lt_asymm (show h3.objs.size < s1.heap.objs.size from l) sz3
        · rcases List.mem_cons.mp z with z | z
          · rw [z] at l
            exact Nat.lt_irrefl _ l
          · cases z
      have J := GxR.inv_tab (more := more) (h' := s'.heap) (g' := s'.gens) (d' := s'.drawn) (t' := s'.toks) I1 hP (fun b u hb e => mv.heap b u (apart b u e) (hk5 b u (keep3 b u hb e)))
        (by rw [← em]; exact mv.heap P _ (apart P _ tabS) (hk5 P _ hP3)) (AllBare.movedS (I1.bare.push bare) mv)
      rw [GxR.sh_eta s1 s' mv.os] at J
      exact ⟨_, ⟨⟨tb ++ more, upd_same, by rw [← em]; exact ht3⟩, fun b hb => upd_ne hb⟩, J⟩
/-- sum(elt for xa, xb in te); behind it the def's table may have grown -/
def tSumP (K : PySem.W.Frag) (P : Addr) (ok : Int → Int → Int → Prop) (g : Int → Int → Int → Int) (ic : Nat) (te : TE) : TE := fun σ H Q => te σ H fun v H1 =>
  ∃ (yl : Addr) (ps : Prs) (d : Int), v = .ref yl ∧ PrsAt K H1 yl ps ∧ (∀ p ∈ ps, ok p.2.1 p.2.2 d) ∧ σ[ic]? = some (some (.int d)) ∧ GxR.TabG H1 P ∧ ∀ H2, GxR.Tabbed P H1 H2 → Q (.int (sumP ps d g)) H2
theorem pe_sumP {c P : Addr} {elt iter : Expr} {xa xb xc : Str} {pa pb pt gpos p pos : Pos} {kt ic k : Nat} {scope : Scope} {ok : Int → Int → Int → Prop} {g : Int → Int → Int → Int} {te : TE}
    (hr : Room k X.A) (hg : Gl X "sum") (hm : X.mg "sum" = none) (TB : GxR.TabB X.base X.mg c P) (hcode : X.env.code = .ref c) (S : GenT scope xa xb xc) (hN : X.N[ic]? = some xc) (hk : X.env.kindOf xc = some .cell) (hi : PE X iter te) (hel : EltT X.prog X.w scope xa xb xc elt ok g)
    (hs : ∀ v, genFold iter X.env v = pure v) (hb : bootBuiltins "sum" = some (.builtin "sum") := by decide +kernel)
    (he : starEach [.GeneratorExp elt [⟨.Tuple [.Name xa pa, .Name xb pb] kt pt, iter, [], 0⟩] scope gpos] X.env = (false, eval (.GeneratorExp elt [⟨.Tuple [.Name xa pa, .Name xb pb] kt pt, iter, [], 0⟩] scope gpos) X.env) :: starEach [] X.env := by rfl) :
    PE X (.Call (.Name "sum" p) [.GeneratorExp elt [⟨.Tuple [.Name xa pa, .Name xb pb] kt pt, iter, [], 0⟩] scope gpos] [] pos) (tSumP X.K P ok g ic te) := by
  constructor
  intro pins s σ H Q I want
  apply wpAny_Call_Name_kw (ld_blt I hg hm hb ?_)
  apply PyProof.Rows.callWith_builtin1 ?_ he (by rfl)
  rw [he]
  show wpAny _ _ (spliced ((false, eval (.GeneratorExp elt [⟨.Tuple [.Name xa pa, .Name xb pb] kt pt, iter, [], 0⟩] scope gpos) X.env) :: backTo pos (starEach [] X.env))) _ _ s
  apply Calls.spliced_cons (gen_prs (R := fun ps d H1 => ∀ H2, GxR.Tabbed P H1 H2 → Q (.int (sumP ps d g)) H2) hr TB hcode S hN hk hi hel hs I want ?_)
  intro ps d H1 a s5 k5 ready
  obtain ⟨fp, wr, G, F, St, W, st0, below, vals, ends⟩ := ready
  apply Calls.spliced_nil
  apply call_sum_walkAnyS
  refine W.self 0 _ _ _ st0 ⟨a, fp, wr, G, _, F, St, valP ps d g, rfl, W, st0, below, vals, fun s' t' mv => ?_⟩
  obtain ⟨H2, tabbed, J⟩ := ends s' mv
  rw [preSum_sumP]
  exact ⟨.int _, H2, J, ⟨t', rfl⟩, k5 H2 tabbed⟩
end
/-! ### the element top * (bottom // below) -/
def okCut (a b d : Int) : Prop := CDivZ d b ∧ CMulW a (d.fdiv b)
def gCut (a b d : Int) : Int := a * d.fdiv b
theorem elt_cut {prog : Program} {w : World} {scope : Scope} {xa xb xc : Str} {p1 p2 p3 p4 p5 : Pos} (S : GenT scope xa xb xc) (da : (xa == ("__debug__" : Str)) = false := by decide) (db : (xb == ("__debug__" : Str)) = false := by decide) (dc : (xc == ("__debug__" : Str)) = false := by decide)
    (dk : (xc == ("__classdict__" : Str)) = false := by decide) :
    EltT prog w scope xa xb xc (.BinOp (.Name xa p1) .Mult (.BinOp (.Name xc p2) .FloorDiv (.Name xb p3) p4) p5) okCut gCut := by
  intro cenv B E a b d ta tb td c s m hs ho hn ha hb hc hcell
  have kf : cenv.scope.kind = .function := by rw [hs]; exact S.kind
  have la : cenv.kindOf xa = some .local := by show cenv.scope.names.lookup xa = _; rw [hs]; exact S.la
  have lb : cenv.kindOf xb = some .local := by show cenv.scope.names.lookup xb = _; rw [hs]; exact S.lb
  have lc : cenv.kindOf xc = some .free := by show cenv.scope.names.lookup xc = _; rw [hs]; exact S.lc
  apply wpAny_BinOp
  apply wpAny_Name (wpAny_loadName_local kf la hn ha ?_) da
  apply wpAny_BinOp
  apply wpAny_Name (wpAny_loadName_free kf lc hc hcell ?_ dk) dc
  apply wpAny_Name (wpAny_loadName_local kf lb hn hb ?_) db
  apply floordiv_int ho.1.1 ?_ (.inl (PyProof.noPylong_of_log2 ho.1.2))
  apply mul_int ?_ ho.2.ok
  exact ⟨⟨_, rfl⟩, GxR.keeps_tok _ _⟩
end Jf
set_option Elab.async false
set_option linter.all false
set_option maxRecDepth 100000
set_option maxHeartbeats 4000000
namespace Jf
open PySem PySem.Spec PyProof.Rows L2 Evl
/-! ### many fractions over one bottom -/
def lcmN (d e : Int) : Int := d.fdiv ((Nat.gcd d.natAbs e.natAbs : Nat) : Int) * e
theorem lcm_step {d e : Int} (hd : 0 < d) (he : 0 < e) : 0 < lcmN d e ∧ d ∣ lcmN d e ∧ e ∣ lcmN d e ∧ lcmN d e ≤ d * e := by
  have h1 : ((Nat.gcd d.natAbs e.natAbs : Nat) : Int) ∣ d := Int.ofNat_dvd_left.mpr (Nat.gcd_dvd_left _ _)
  have h2 : ((Nat.gcd d.natAbs e.natAbs : Nat) : Int) ∣ e := Int.ofNat_dvd_left.mpr (Nat.gcd_dvd_right _ _)
  have hp := gcd_pos (n := d) (d := e) (by omega)
  unfold lcmN
  have hp' : (0 : Int) < ((Nat.gcd d.natAbs e.natAbs : Nat) : Int) := by omega
  clear hp
  generalize ((Nat.gcd d.natAbs e.natAbs : Nat) : Int) = g at h1 h2 hp' ⊢
  obtain ⟨k, rfl⟩ := h1
  obtain ⟨m, rfl⟩ := h2
  have up : ∀ z : Int, 0 < g * z → 0 < z := fun z h => by
    rcases Int.lt_or_le 0 z with q | q
    · exact q
    · have := Int.mul_le_mul_of_nonneg_left q (Int.le_of_lt hp')
      rw [Int.mul_zero] at this
      omega
  have hk := up k hd
  rw [Int.mul_fdiv_cancel_left _ (by omega)]
  refine ⟨Int.mul_pos hk he, ⟨m, by rw [← Int.mul_assoc, Int.mul_comm k g]⟩, ⟨k, Int.mul_comm _ _⟩, ?_⟩
  have : k * (g * m) ≤ (g * k) * (g * m) := by
    refine Int.mul_le_mul_of_nonneg_right ?_ (Int.le_of_lt he)
    have : 1 * k ≤ g * k := Int.mul_le_mul_of_nonneg_right (by omega) (Int.le_of_lt hk)
    omega
  exact this
theorem cut_eq {q : Rat} {D : Int} (h : (q.den : Int) ∣ D) : ((gCut q.num (q.den : Int) D : Int) : Rat) = q * (D : Rat) := by
  obtain ⟨m, rfl⟩ := h
  unfold gCut
  rw [Int.mul_fdiv_cancel_left _ (den_ne q)]
  have e : (q.num : Rat) / (((q.den : Nat) : Int) : Rat) = q := by
    rw [← Rat.divInt_eq_div]
    exact Rat.num_divInt_den q
  have n0 : (((q.den : Nat) : Int) : Rat) ≠ 0 := fun z => den_ne q (by exact_mod_cast z)
  rw [Rat.intCast_mul, Rat.intCast_mul]
  grind
abbrev Qs := List (Addr × Rat)
def prs (qs : Qs) : Prs := qs.map fun p => (p.1, p.2.num, (p.2.den : Int))
def sumQ (qs : Qs) : Rat := (qs.map fun p => p.2).sum
theorem sum_cut (D : Int) : ∀ qs : Qs, (∀ p ∈ qs, (p.2.den : Int) ∣ D) → ((sumP (prs qs) D gCut : Int) : Rat) = sumQ qs * (D : Rat)
  | [], _ => by
    show ((0 : Int) : Rat) = 0 * (D : Rat)
    grind
  | p :: qs, h => by
    have ih := sum_cut D qs fun p hp => h p (List.mem_cons_of_mem _ hp)
    have e := cut_eq (h p List.mem_cons_self)
    show ((gCut p.2.num (p.2.den : Int) D + sumP (prs qs) D gCut : Int) : Rat) = (p.2 + sumQ qs) * (D : Rat)
    rw [Rat.intCast_add, ih, e]
    grind
theorem sum_divInt {qs : Qs} {D : Int} (hD : D ≠ 0) (h : ∀ p ∈ qs, (p.2.den : Int) ∣ D) : Rat.divInt (sumP (prs qs) D gCut) D = sumQ qs := by
  rw [Rat.divInt_eq_div, sum_cut D qs h]
  have : (D : Rat) ≠ 0 := fun z => hD (by exact_mod_cast z)
  grind
theorem sumP_abs {M : Nat} {d : Int} {g : Int → Int → Int → Int} : ∀ ps : Prs, (∀ p ∈ ps, (g p.2.1 p.2.2 d).natAbs ≤ M) → (sumP ps d g).natAbs ≤ ps.length * M
  | [], _ => by
    show (0 : Int).natAbs ≤ _
    simp
  | p :: ps, h => by
    have ih := sumP_abs ps fun q hq => h q (List.mem_cons_of_mem _ hq)
    have e := h p List.mem_cons_self
    show (g p.2.1 p.2.2 d + sumP ps d g).natAbs ≤ (ps.length + 1) * M
    have := abs_add_le (g p.2.1 p.2.2 d) (sumP ps d g)
    rw [Nat.succ_mul]
    omega
theorem fdiv_le {d e : Int} (he : 0 < e) (h : e ∣ d) (hd : 0 < d) : 0 ≤ d.fdiv e ∧ d.fdiv e ≤ d := by
  rw [Int.fdiv_eq_ediv_of_nonneg d (by omega)]
  exact ⟨Int.ediv_nonneg (by omega) (by omega), Int.ediv_le_self e (by omega)⟩
theorem cut_ok {q : Rat} {d : Int} {b c : Nat} (hb : Bd b q) (hd : 0 < d) (hc : d.natAbs < 2 ^ c) (h : (q.den : Int) ∣ d) (hl : b + c ≤ 8000) : okCut q.num (q.den : Int) d ∧ (gCut q.num (q.den : Int) d).natAbs < 2 ^ (b + c) := by
  obtain ⟨h1, h2⟩ := fdiv_le (den_pos q) h hd
  have hf : (d.fdiv (q.den : Int)).natAbs < 2 ^ c := by omega
  refine ⟨⟨⟨den_ne q, log_lt (bd_den hb) (by omega : b ≤ 9000) (by decide)⟩, mulW hb.1 hf (by omega)⟩, ?_⟩
  exact bn_mul hb.1 hf
end Jf
set_option Elab.async false
set_option linter.all false
set_option maxRecDepth 100000
set_option maxHeartbeats 4000000
namespace PySem.W
open Lean Elab Tactic Meta PySem PySem.Calls PyProof.Rows Builtin Builtin.ObjectAttr Builtin.Getset_descriptor PyProof.V PySem.Spec
section
variable {prog : Program} {w : World} {A : Around} {E : Value → Shared → Prop} {s : Shared} {K : Frag} {x C : Addr} {ox : Obj} {od : Option Obj} {R : Result → Shared → Prop}
/-- e.__class__ for an instance of an exception class of the program, read in an expression -/
theorem jf_classX {gt : Option Value} {expr : Bool} {Q : Value → Shared → Prop} (X : K.In s.heap) (I : InstAt s.heap x ox C od) (hga : findIn K (.ref C) "__getattribute__" = some (some (.builtin "BaseException.__getattribute__"))) (hgt : findIn K (.ref C) "__getattr__" = some gt)
    (hsub : subIn K (.ref C) (.type "BaseException") = some true) (hf : findObj K C od "__class__" = some (.bind (.builtin "getset_descriptor.__get__") (.builtin "object.__class__"))) (hm : mroIn K C (.type "object") = some true)
    (h : Q (.ref C) { s with toks := s.toks + 1 }) : wpAny (model prog w) A (getAttr (.ref x) "__class__" expr) Q E s := by
  obtain ⟨hp, g, d, t, os⟩ := s
  have L0 := I.type (M := model prog w)
  have L1 := looks_findIn (M := model prog w) X hga
  have L2 := looks_findIn (M := model prog w) X hgt
  have L3 := looks_find (M := model prog w) X I hf
  have sub : Looks (model prog w) hp (isInstance (.ref x) (.type "BaseException")) true := L0.andThen (looks_subIn X hsub)
  have hx0 : (expr && onTheHeap (Value.builtin "BaseException.__getattribute__")) = false := by cases expr <;> rfl
  have hx2 : (Value.builtin "BaseException.__getattribute__" == Value.builtin "object.__getattribute__") = false := by decide +kernel
  have hx1 : (onTheHeap (Value.ref C) && Value.builtin "BaseException.__getattribute__" == Value.builtin "object.__getattribute__") = false := by rw [hx2]; rfl
  unfold getAttr getAttrBy
  refine wpAny_bind (wpAny_mkText (wpAny_holding (wpAny_bind (L0.at (wpAny_bind (L1.at ?_))))))
  show wpAny _ _ (if (onTheHeap (Value.ref C) && Value.builtin "BaseException.__getattribute__" == Value.builtin "object.__getattribute__") = true then _ else _) _ _ _
  rw [hx1, if_neg Bool.false_ne_true]
  unfold getAttrByItsOwn hookBefore
  refine wpAny_bind ?_
  rw [if_pos (show onTheHeap (Value.ref C) = true from rfl)]
  refine L2.at ?_
  refine wpAny_bind (wpAny_attempt (wpAny_holding ?_))
  unfold callGetattribute
  rw [hx0, if_neg Bool.false_ne_true]
  unfold boundAndCalled
  rw [PySem.F.excAttr_ValueError.ga.bind (.ref x)]
  refine wpAny_bind (wpAny_pure ?_)
  show wpAny _ _ (call (.builtin "BaseException.__getattribute__") [.ref x, .str "__class__" t]) _ _ _
  refine wpAny_call (codeAny_call_builtin PySem.F.excAttr_ValueError.ga.plain PySem.F.entry_bexc_ga ?_)
  refine @check_slot (model prog w) _ _ ⟨hp, g, d, t + 1, os⟩ "BaseException.__getattribute__" "BaseException" "__getattribute__" (.ref x) [.str "__class__" t] [] _ (by decide +kernel) (by decide +kernel) sub (PySem.F.args_bexc_ga (.ref x) (.str "__class__" t)) ?_
  unfold Builtin.«object.__getattribute__»
  refine wpAny_bind (wpAny_of_eq (a := ((Value.ref x : Value), [Value.str "__class__" t])) (by first | rfl | (simp only [slotArgs]; rfl)) ?_)
  refine wpAny_bind (wpAny_pure (wpAny_bind (L0.at (wpAny_bind (L3.at ?_)))))
  refine wpAny_bind (wpAny_holding (wpAny_call (class_get (s := ⟨hp, g, d, t + 1, os⟩) (ox := ox) (od := od) X I hm ?_)))
  refine wpAny_pure ?_
  show wpAny _ _ (handedOut (.ref C)) _ _ _
  rw [handedOut_of (show handedIn (.ref C) = true from rfl)]
  first | exact wpAny_pure h | exact wpAny_pure (wpAny_pure h)
theorem jf_dga (d tp : Value) (C : Addr) : descrGetArgs ⟨[d, .ref C, tp], []⟩ = pure (d, some (.ref C), given tp) := by rfl
/-- c.__name__, what its slot keeps -/
theorem jf_name_get {tp : Value} {o : Obj} {n : Str} {tk : Tok} (X : K.In s.heap) (ht : typeIn K (.ref C) = some (.type "type")) (hl : K.lookup C = some o) (hs : o.slots[2]? = some (some (.str n tk))) (h : R (.ok (.ret (.str n tk))) s) :
    codeAny (model prog w) A (.call (.builtin "getset_descriptor.__get__") ⟨[.builtin "type.__name__", .ref C, tp], []⟩) R s := by
  obtain ⟨hh, g, dr, t, os⟩ := s
  have L0 : Looks (model prog w) hh (typeOf (.ref C)) (.type "type") := looks_typeIn X ht
  have L1 : Looks (model prog w) hh (isSubtype (.type "type") (.type "type")) true := Looks.of_pure (by rw [isSubtype_type]; kernel_rfl)
  refine codeAny_call_builtin KF.slot_gs.plain KF.entry_gs (KF.slot_gs.check _ _ _ _ _ _ _ _ ktyn_type (KF.args_gs _ _ _) ?_)
  unfold Builtin.«getset_descriptor.__get__» descrGet
  rw [jf_dga]
  refine wpAny_bind (wpAny_pure ?_)
  unfold descrGetter descrCheckInstance descrNameAndClass isInstance
  simp only [ktyn_owner]
  repeat lk
  refine ⟨Code.quiet_builtin _ (by decide +kernel), codeAny_builtin ktyn_entry ?_⟩
  unfold Builtin.«type.__name__»
  dsimp only
  unfold Builtin.keptObject slotAt
  dsimp only
  refine wpAny_bind (wpAny_bind (wpAny_bind (wpAny_loadPart (X _ _ hl) ?_)))
  refine wpAny_pure (wpAny_pure ?_)
  rw [hs]
  exact wpAny_pure h
end
end PySem.W
namespace Jf
open PySem PySem.Spec PyProof.Rows L2 Evl
/-- what is asked of a class, so that its name is read -/
structure NmC (K : PySem.W.Frag) (C : Addr) (nm : Str) : Prop where
  ga : PySem.W.findIn K (.ref C) "__getattribute__" = some (some (.builtin "BaseException.__getattribute__"))
  gg : PySem.W.findIn K (.ref C) "__getattr__" = some none
  ex : PySem.W.subIn K (.ref C) (.type "BaseException") = some true
  cl : (PySem.W.clsIn K C).isSome = true
  kc : PySem.W.findIn K (.ref C) "__class__" = some (some (.builtin "object.__class__"))
  sp : PySem.W.specialIn K (.builtin "object.__class__") "__get__" = some (some (.builtin "getset_descriptor.__get__"))
  tk : PySem.W.takesIn K (.builtin "object.__class__") = some true
  mo : PySem.W.mroIn K C (.type "object") = some true
  rd : PySem.W.readsIn K C (.type "type") = true
  fd : PySem.W.findCls K (.ref C) (.type "type") "__name__" = some (.get (.builtin "getset_descriptor.__get__") (.builtin "type.__name__") (.ref C) (.type "type"))
  ty : PySem.W.typeIn K (.ref C) = some (.type "type")
  sl : ∃ o t, K.lookup C = some o ∧ o.slots[2]? = some (some (.str nm t))
/-- e.__class__.__name__ -/
def tNm (K : PySem.W.Frag) (te : TE) : TE := fun σ H Q => te σ H fun x H1 => ∃ (a C dx : Addr) (fs : List (Str × V)) (nm : Str), x = .ref a ∧ NmC K C nm ∧ H1 a = some (exo a C (some dx)) ∧ H1 dx = some (exd dx fs) ∧ Q (.str nm) H1
theorem pe_nm {X : Cx} {e : Expr} {te : TE} {p1 pos : Pos} (he : PE X e te) (hb1 : attributeBase e "__class__" X.env (eval e X.env) = eval e X.env := by rfl)
    (hb : attributeBase (.Attribute e "__class__" p1) "__name__" X.env (eval (.Attribute e "__class__" p1) X.env) = eval (.Attribute e "__class__" p1) X.env := by rfl) : PE X (.Attribute (.Attribute e "__class__" p1) "__name__" pos) (tNm X.K te) := by
  refine ⟨fun pins s σ H Q I h => ?_⟩
  refine attr_of hb (attr_of hb1 (thn (he.run pins s σ H _ I h) fun u s1 hh => ?_))
  obtain ⟨x, H1, I1, rx, a, C, dx, fs, nm, ex, T, ea, ed, q⟩ := hh
  subst ex
  obtain rfl : u = Value.ref a := rx
  obtain ⟨t1, ho⟩ := exo_at I1.hok ea
  obtain ⟨mA, hns, hr⟩ := exd_at I1.hok ed
  obtain ⟨od, hod, hl⟩ := lookIn_ns hns
  have J : PySem.W.InstAt s1.heap a { cls := .ref C, dict := some dx, data := .fields #[.ref t1, .none, .none, .none, .bool false, .none] } C (some od) := ⟨ho, rfl, rfl, hod⟩
  refine PySem.W.jf_classX I1.kIn J T.ga T.gg T.ex (PySem.W.findObj_dataE T.cl T.kc T.sp T.tk) T.mo ?_
  obtain ⟨o, t, e1, e2⟩ := T.sl
  have I2 := I1.tok (s1.toks + 1)
  have I3 := I1.tok (s1.toks + 1 + 1)
  refine PySem.W.cls_bind (s := { s1 with toks := s1.toks + 1 }) I2.kIn T.rd T.fd (wpAny_call (PySem.W.jf_name_get (s := { s1 with toks := s1.toks + 1 + 1 }) I3.kIn T.ty e1 e2 ?_))
  refine PySem.W.handed_on rfl ?_
  exact ⟨.str nm, H1, I3, ⟨t, rfl⟩, q⟩
end Jf
set_option Elab.async false
set_option linter.all false
set_option maxRecDepth 100000
set_option maxHeartbeats 4000000
namespace Jf
open PySem PySem.Spec PyProof.Rows L2 Evl
/-! ### error classes right under one class over ValueError, each with an `__init__` of its own that calls that one's -/
def clsOk (K : PySem.W.Frag) (C CM : Addr) (nm : Str) : Bool := match K.lookup C with
  | some ⟨.type "type", _, .cls cd, sl⟩ => (match sl.toList with
    | [_, _, _, _, some (.builtin n), _] => decide (n = "ValueError.__new__") && (decide (cd.name = nm) && (decide (cd.mro = [.ref C, .ref CM, .type "ValueError", .type "Exception", .type "BaseException", .type "object"]) && (decide (cd.hasDict = true) && decide (cd.hasDel = false))))
    | _ => false)
  | _ => false
/-- its name is read -/
def fdB (K : PySem.W.Frag) (C : Addr) : Bool := match PySem.W.findCls K (.ref C) (.type "type") "__name__" with
  | some (.get (.builtin g) (.builtin a) (.ref D) (.type t)) => decide (g = "getset_descriptor.__get__") && (decide (a = "type.__name__") && (decide (D = C) && decide (t = "type")))
  | _ => false
def slB (K : PySem.W.Frag) (C : Addr) (nm : Str) : Bool := match K.lookup C with
  | some o => (match o.slots[2]? with
    | some (some (Value.str n _)) => decide (n = nm)
    | _ => false)
  | none => false
def nmB (K : PySem.W.Frag) (C : Addr) (nm : Str) : Bool := PySem.W.readsIn K C (.type "type") && (fdB K C && (slB K C nm && decide (PySem.W.findIn K (.ref C) "kind" = some none)))
theorem fd_ok {K : PySem.W.Frag} {C : Addr} (h : fdB K C = true) : PySem.W.findCls K (.ref C) (.type "type") "__name__" = some (.get (.builtin "getset_descriptor.__get__") (.builtin "type.__name__") (.ref C) (.type "type")) := by
  unfold fdB at h
  split at h
  · rename_i g a D t e
    simp only [Bool.and_eq_true, decide_eq_true_eq] at h
    obtain ⟨rfl, rfl, rfl, rfl⟩ := h
    exact e
  · cases h
theorem sl_ok {K : PySem.W.Frag} {C : Addr} {nm : Str} (h : slB K C nm = true) : ∃ o t, K.lookup C = some o ∧ o.slots[2]? = some (some (.str nm t)) := by
  unfold slB at h
  split at h
  · rename_i o e
    split at h
    · rename_i n t e2
      simp only [decide_eq_true_eq] at h
      subst h
      exact ⟨o, t, e, e2⟩
    · cases h
  · cases h
/-- all that is asked of a class, as one truth -/
def errB (K : PySem.W.Frag) (C CM f : Addr) (nm : Str) : Bool :=
  nmB K C nm && (clsOk K C CM nm && (decide (PySem.W.findIn K (.ref C) "__setattr__" = some (some (.builtin "object.__setattr__"))) && (decide (PySem.W.subIn K (.ref C) (.type "BaseException") = some true) && (decide (PySem.W.typeIn K (.ref C) = some (.type "type")) &&
  (PySem.W.keepIn K (.ref C) && (decide (PySem.W.findIn K (.ref C) "__init__" = some (some (.ref f))) && (decide (PySem.W.typeIn K (.ref f) = some (.type "function")) && (decide (PySem.W.findIn K (.ref C) "value" = some none) &&
  (decide (PySem.W.findIn K (.ref C) "__getattribute__" = some (some (.builtin "BaseException.__getattribute__"))) && (decide (PySem.W.findIn K (.ref C) "__getattr__" = some none) && (PySem.W.hasDictIn K C &&
  (decide (PySem.W.findIn K (.ref C) "__class__" = some (some (.builtin "object.__class__"))) && (decide (PySem.W.specialIn K (.builtin "object.__class__") "__get__" = some (some (.builtin "getset_descriptor.__get__"))) && (decide (PySem.W.takesIn K (.builtin "object.__class__") = some true) &&
  (decide (PySem.W.mroIn K C (.type "object") = some true) && (decide (PySem.W.exmOne K (.ref C) (.ref CM) = some true) && !(C == CM)))))))))))))))))
structure ErrX (K : PySem.W.Frag) (C CM f : Addr) (nm : Str) : Prop where
  oex : OexC K C
  i : PySem.W.findIn K (.ref C) "__init__" = some (some (.ref f))
  t : PySem.W.typeIn K (.ref f) = some (.type "function")
  noV : PySem.W.findIn K (.ref C) "value" = some none
  ec : ErrC K C
  xf : XfC K C
  named : ∃ cd, PySem.W.clsIn K C = some cd ∧ cd.name = nm ∧ cd.mro = [.ref C, .ref CM, .type "ValueError", .type "Exception", .type "BaseException", .type "object"]
  exm : PySem.W.exmOne K (.ref C) (.ref CM) = some true
  ty : PySem.W.typeIn K (.ref C) = some (.type "type")
  neM : C ≠ CM
  nm : NmC K C nm
  noK : PySem.W.findIn K (.ref C) "kind" = some none
theorem cls_ok {K : PySem.W.Frag} {C CM : Addr} {nm : Str} (h : clsOk K C CM nm = true) : (∃ q N bs bm sn sub ab col dd k0 k1 k2 k3 k5, K.lookup C = some (excClassObj nm q C N bs bm true sn sub ab col dd k0 k1 k2 k3 k5 "ValueError.__new__") ∧ PySem.HandSPX.refsVE bm = true) ∧
    ∃ cd, PySem.W.clsIn K C = some cd ∧ cd.name = nm ∧ cd.mro = [.ref C, .ref CM, .type "ValueError", .type "Exception", .type "BaseException", .type "object"] := by
  unfold clsOk at h
  split at h
  · rename_i dd cd sl ho
    split at h
    · rename_i k0 k1 k2 k3 n k5 hs
      simp only [Bool.and_eq_true, decide_eq_true_eq] at h
      obtain ⟨rfl, h1, h2, h3, h4⟩ := h
      obtain ⟨nm', bs, mro, ns, qn, hd, sn, sub, ab, col, del⟩ := cd
      dsimp only at h1 h2 h3 h4
      subst h1 h2 h3 h4
      have hsl : sl = #[k0, k1, k2, k3, some (.builtin "ValueError.__new__"), k5] := by
        obtain ⟨l⟩ := sl
        simp only at hs
        rw [hs]
      subst hsl
      exact ⟨⟨qn, ns, bs, [.ref CM, .type "ValueError", .type "Exception", .type "BaseException", .type "object"], sn, sub, ab, col, dd, k0, k1, k2, k3, k5, ho, rfl⟩, _, by unfold PySem.W.clsIn; rw [ho], rfl, rfl⟩
    · cases h
  · cases h
theorem err_ok {K : PySem.W.Frag} {C CM f : Addr} {nm : Str} (h : errB K C CM f nm = true) : ErrX K C CM f nm := by
  unfold errB at h
  simp only [Bool.and_eq_true, decide_eq_true_eq, Bool.not_eq_true', beq_eq_false_iff_ne] at h
  obtain ⟨h0, h1, sa, ex, ty, kp, hi, ht, nv, ga, gg, hd, kc, sp, tk, mo, em, nM⟩ := h
  obtain ⟨⟨q, N, bs, bm, sn, sub, ab, col, dd, k0, k1, k2, k3, k5, hl, hr⟩, cd, hc, hn, hm⟩ := cls_ok h1
  unfold nmB at h0
  simp only [Bool.and_eq_true, decide_eq_true_eq] at h0
  refine ⟨⟨⟨nm, q, N, bs, bm, sn, sub, ab, col, dd, k0, k1, k2, k3, k5, hl, hr⟩, sa, ex, ty, kp⟩, hi, ht, nv, ⟨by rw [hc]; rfl, ga, gg, ex, hd, kc, sp, tk, mo⟩, ⟨ga, gg, ex, hd⟩, ⟨cd, hc, hn, hm⟩, em, ty, nM, ?_, ?_⟩
  · exact ⟨ga, gg, ex, by rw [hc]; rfl, kc, sp, tk, mo, h0.1, fd_ok h0.2.1, ty, sl_ok h0.2.2.1⟩
  · exact h0.2.2.2
section
variable {K : PySem.W.Frag} {C D CM f g : Addr} {nm nk : Str}
theorem kit_one (C : Addr) : PySem.W.kitOne K (.ref C) (.ref C) = some true := by
  unfold PySem.W.kitOne
  rw [if_pos (by simp)]
theorem ErrX.ne (a : ErrX K C CM f nm) (b : ErrX K D CM g nk) (h : nm ≠ nk) : C ≠ D := by
  rintro rfl
  obtain ⟨cd, h1, h2, _⟩ := a.named
  obtain ⟨ce, h3, h4, _⟩ := b.named
  rw [h1] at h3
  cases h3
  exact h (h2.symm.trans h4)
/-- isinstance by another of them -/
theorem ErrX.other (a : ErrX K C CM f nm) (b : ErrX K D CM g nk) (h : nm ≠ nk) : PySem.W.kitOne K (.ref C) (.ref D) = some false := by
  have n := a.ne b h
  obtain ⟨cd, h1, h2, h3⟩ := a.named
  obtain ⟨ce, h4, _, _⟩ := b.named
  unfold PySem.W.kitOne PySem.W.kitCls
  rw [if_neg (by simpa using n)]
  dsimp only
  rw [if_pos (by rw [h4, b.ty]; rfl)]
  show PySem.W.mroIn K C (.ref D) = some false
  unfold PySem.W.mroIn
  rw [h1, Option.bind_some, h3]
  simp [n.symm, b.neM]
theorem ErrX.off (a : ErrX K C CM f nm) (b : ErrX K D CM g nk) (n : C ≠ D) : PySem.W.kitOne K (.ref C) (.ref D) = some false := by
  obtain ⟨cd, h1, h2, h3⟩ := a.named
  obtain ⟨ce, h4, _, _⟩ := b.named
  unfold PySem.W.kitOne PySem.W.kitCls
  rw [if_neg (by simpa using n)]
  dsimp only
  rw [if_pos (by rw [h4, b.ty]; rfl)]
  show PySem.W.mroIn K C (.ref D) = some false
  unfold PySem.W.mroIn
  rw [h1, Option.bind_some, h3]
  simp [n.symm, b.neM]
theorem ErrX.self1 (a : ErrX K C CM f nm) : PySem.W.exmOne K (.ref C) (.ref C) = some true := by
  obtain ⟨cd, h1, h2, h3⟩ := a.named
  refine PySem.W.exm_ref a.ec.ex a.ec.hd a.ty ?_
  show PySem.W.mroIn K C (.ref C) = some true
  unfold PySem.W.mroIn
  rw [h1, Option.bind_some, h3]
  simp
theorem ErrX.base (a : ErrX K C CM f nm) : PySem.W.kitOne K (.ref C) (.ref CM) = some true := by
  have e := a.exm
  unfold PySem.W.exmOne at e
  split at e
  · unfold PySem.W.kitOne
    split
    · rfl
    · exact e
  · cases e
theorem ErrX.ve (a : ErrX K C CM f nm) : PySem.W.kitOne K (.ref C) (.type "ValueError") = some true := by
  obtain ⟨cd, h1, h2, h3⟩ := a.named
  unfold PySem.W.kitOne PySem.W.kitCls
  rw [if_neg (by simp)]
  dsimp only
  rw [if_pos (by decide +kernel)]
  show PySem.W.mroIn K C (.type "ValueError") = some true
  unfold PySem.W.mroIn
  rw [h1, Option.bind_some, h3]
  simp
theorem ErrX.self (a : ErrX K C CM f nm) (b : ErrX K D CM g nk) (h : nm = nk) (e : C = D) : PySem.W.kitOne K (.ref C) (.ref D) = some true := e ▸ kit_one C
end
/-- what such an error keeps -/
def kd (k : Str) (v : V) : List (Str × V) := [(("kind" : Str), .str k), (("value" : Str), v)]
/-- the object made of a class, its value kept -/
def ErrAt (K : PySem.W.Frag) (C : Addr) (v : V) (x : V) (H : Hp) : Prop := ∃ a dx k, x = .ref a ∧ H a = some (exo a C (some dx)) ∧ H dx = some (exd dx (kd k v))

/-! ### making one, as a value -/
def spInit (C : Addr) : Sp := fun vs H Q _ => ∃ (a : Addr) (v : V), vs = [.ref a, v] ∧ H a = some (exo a C none) ∧
  ∀ dx k H', H dx = none → dx ≠ a → H' a = some (exo a C (some dx)) → H' dx = some (exd dx (kd k v)) → (∀ b o, b ≠ a → H b = some o → H' b = some o) → Q .non H'
/-- .. of any of those classes -/
def spInitM (K : PySem.W.Frag) : Sp := fun vs H Q _ => ∃ (C a : Addr) (v : V) (nm : Str), vs = [.ref a, v] ∧ OexC K C ∧ PySem.W.findIn K (.ref C) "value" = some none ∧ PySem.W.findIn K (.ref C) "kind" = some none ∧ NmC K C nm ∧ H a = some (exo a C none) ∧
  ∀ dx k H', H dx = none → dx ≠ a → H' a = some (exo a C (some dx)) → H' dx = some (exd dx (kd k v)) → (∀ b o, b ≠ a → H b = some o → H' b = some o) → Q .non H'
def tMkV (C : Addr) (sp : Sp) (ta : TA) : TE := fun σ H Q => ta σ H fun vs H1 => vs.length ≤ 1000 ∧ ∀ a, H1 a = none → sp (.ref a :: vs) (upd H1 a (exo a C none)) (fun v H2 => v = .non ∧ Q (.ref a) H2) (fun _ _ _ => False)
section
variable {X : Cx} {e : Expr} {es : List Expr} {ta : TA} {x m : Str} {p p1 p2 pos : Pos} {k : Nat} {fd : FuncData} {ps : List Str} {sp : Sp}
/-- C(e, ..) -/
theorem pe_mkv {CX : CXT} {C fI : Addr} (T : OexC X.K C) (iC : PySem.W.findIn X.K (.ref C) "__init__" = some (some (.ref fI))) (tI : PySem.W.typeIn X.K (.ref fI) = some (.type "function"))
    (F1 : FnOk X.prog X.w X.K X.mg X.base CX k fI fd ps sp) (hr : Room (k + 1) X.A) (hb : Binds X.K fd ps []) (hx : Passes CX X (fun _ _ _ => False)) (hg : Gl X x) (hm : X.mg x = some (.ref C)) (ha : PA X (e :: es) ta)
    (hdb : (x == ("__debug__" : Str)) = false := by decide) (he : starEach (e :: es) X.env = (false, eval e X.env) :: starEach es X.env := by rfl) (hpl : (backTo pos (starEach es X.env)).any (·.1) = false := by rfl) :
    PE X (.Call (.Name x p) (e :: es) [] pos) (tMkV C sp ta) := by
  refine ⟨fun pins s σ H Q I h => ?_⟩
  obtain ⟨nm, q, N, bs, bm, sn, sub, ab, col, dd, k0, k1, k2, k3, k5, hC, hbm⟩ := T.cls
  refine wpAny_Call_Name_kw (ld_glob I hg hm ?_ hdb)
  refine PySem.W.callWith_K (h₀ := X.base) I.ok.mod.kin T.kC (thn (ha.run pos pins s σ H _ I h) fun us s1 ⟨vs, H1, I1, r1, hz, q1⟩ => ⟨I1.kIn, ?_⟩) he hpl
  show wpAny _ _ (call (.ref C) us) _ _ _
  obtain ⟨hp, g, dr, tk, os⟩ := s1
  have hsz : hp.objs.size ≤ hp.objs.size + 1 := Nat.le_succ _
  have hn : H1 (hp.objs.size + 1) = none := I1.hok.fresh hsz
  have hq := q1 (hp.objs.size + 1) hn
  have kk : ∀ b o, hp.get? b = some o → ((hp.push (PySem.W.kdv_tup us)).push (PySem.HandSPX.excO C hp.objs.size)).get? b = some o := fun b o e => Heap.get?_push_of_some _ (Heap.get?_push_of_some _ e)
  have hget : ((hp.push (PySem.W.kdv_tup us)).push (PySem.HandSPX.excO C hp.objs.size)).get? (hp.objs.size + 1) = some (PySem.HandSPX.excO C hp.objs.size) := by heap_get
  have I2 : Inv X pins σ (upd H1 (hp.objs.size + 1) (exo (hp.objs.size + 1) C none)) ⟨(hp.push (PySem.W.kdv_tup us)).push (PySem.HandSPX.excO C hp.objs.size), g, dr, tk, os⟩ :=
    I1.laid (t' := tk) (a := hp.objs.size + 1) (o := exo (hp.objs.size + 1) C none) (h' := (hp.push (PySem.W.kdv_tup us)).push (PySem.HandSPX.excO C hp.objs.size)) kk hsz (exo_ok hget)
  have r2 : Vals (V.ref (hp.objs.size + 1) :: vs) (Value.ref (hp.objs.size + 1) :: us) := .cons rfl r1
  have hl : (Value.ref (hp.objs.size + 1) :: us ++ []).length = ps.length := by
    have e := r2.length
    rw [F1.len _ _ _ _ hq] at e
    rw [List.append_nil]
    exact e.symm
  have hus : us.length ≤ sizeLine := by
    rw [← Paired.length r1, sizeLine_eq]
    omega
  have hb2 := hb _ (Value.ref (hp.objs.size + 1) :: us) I2.kIn hl
  rw [List.append_nil] at hb2
  refine wpAny_call (PySem.HandSPX.call_own F.excBase_ValueError (fun Y => PySem.HandSPX.refsVE_contains Y bm hbm) (I1.kIn _ _ hC) (PySem.W.looks_findIn I1.kIn iC) (fun self => PySem.W.bind_fn I1.kIn self tI) hus
    (codeAny_mono (F1.run _ X.stack _ _ ⟨Value.ref (hp.objs.size + 1) :: us, []⟩ (Value.ref (hp.objs.size + 1) :: us) _ _ (fun _ _ _ => False) (hr.make C us []) (I2.env0.make C us []) hb2 r2 hq) fun r s' hq' => ?_))
  cases r with
  | error er => exact hx pins σ _ _ er s' I2 hq'
  | ok fl =>
    cases fl with
    | ret u =>
      obtain ⟨v, H2, os2, bare2, un2, hok2, rv, ev, q2⟩ := hq'
      subst ev
      obtain ⟨h2, g2, d2, t2, os'⟩ := s'
      exact ⟨rv, .ref (hp.objs.size + 1), H2, I2.call' (ch := []) os2 un2 hok2 bare2 (fun b z => absurd z (by simp)), rfl, q2⟩
    | next => exact False.elim hq'
    | brk => exact False.elim hq'
    | cont => exact False.elim hq'
/-- C.m(e, ..), m a def of the class C itself -/
theorem pe_clsdef {CX : CXT} {C f : Addr} {mc : Value} {E : XK} {pl : Sem Bool} (hg : Gl X x) (hm : X.mg x = some (.ref C)) (rd : PySem.W.readsIn X.K C mc = true) (ga : PySem.W.specialIn X.K (.ref C) "__getattribute__" = some (some (.builtin "type.__getattribute__")))
    (fi : PySem.W.findCls X.K (.ref C) mc m = some (.val (.ref f))) (hk : PySem.W.keepIn X.K (.ref f) = true) (F1 : FnOk X.prog X.w X.K X.mg X.base CX k f fd ps sp) (hr : Room k X.A) (hb : Binds X.K fd ps []) (hx : Passes CX X E) (ha : PA X (e :: es) ta)
    (hdb : (x == ("__debug__" : Str)) = false := by decide)
    (hc : eval (.Call (.Attribute (.Name x p1) m p2) (e :: es) [] pos) X.env = (do
      let ov ← eval (.Name x p1) X.env
      standAt p2.atName
      let (f, first) ← holding [ov] (getMethod ov m pl)
      callWith pos f first (backTo pos (starEach (e :: es) X.env)) (backToKw pos (keywordEach [] X.env))) := by rfl)
    (he : starEach (e :: es) X.env = (false, eval e X.env) :: starEach es X.env := by rfl) (hpl : (backTo pos (starEach es X.env)).any (·.1) = false := by rfl) :
    PE X (.Call (.Attribute (.Name x p1) m p2) (e :: es) [] pos) (tCall sp [] E ta) := by
  refine ⟨fun pins s σ H Q I h => ?_⟩
  refine PySem.W.methodCall_KW (ld_glob I hg hm ?_ hdb) hc
  refine PySem.W.method_cls I.kIn ga (PySem.W.cls_value I.kIn rd fi rfl ?_)
  show wpAny _ _ (callWith pos (Value.ref f) [] (backTo pos (starEach (e :: es) X.env)) []) _ _ _
  refine PySem.W.callWith_K (h₀ := X.base) I.ok.mod.kin hk (thn (ha.run pos pins _ σ H _ (I.tok _) h) fun us s1 ⟨vs, H1, I1, r, q⟩ => ⟨I1.kIn, ?_⟩) he hpl
  exact run_fn F1 hr hb .nil hx I1 r q
end
/-! ### what is asked of such an object -/
/-- isinstance(e, c) -/
def rIsX (K : PySem.W.Frag) : List V → Hp → VK → Prop := fun xs H Q => ∃ (a C dd : Addr) (fs : List (Str × V)) (c : V) (cv : Value) (b : Bool), xs = [.ref a, c] ∧ (∀ u, RelV c u → u = cv) ∧ ErrC K C ∧ H a = some (exo a C (some dd)) ∧ H dd = some (exd dd fs) ∧ PySem.W.kitOne K (.ref C) cv = some b ∧ Q (.bl b) H
theorem call_isX {X : Cx} : CallR X (.builtin "isinstance") (rIsX X.K) := by
  intro pins s σ H xs us Q I r h
  obtain ⟨a, C, dd, fs, c, cv, b, rfl, hcv, T, ea, ed, hk, q⟩ := h
  cases r with
  | cons rx rr =>
    cases rr with
    | cons rt rr =>
      cases rr
      cases rx
      have ec := hcv _ rt
      subst ec
      obtain ⟨t1, ho⟩ := exo_at I.hok ea
      obtain ⟨mA, hns, rel⟩ := exd_at I.hok ed
      obtain ⟨od, hod, _⟩ := lookIn_ns hns
      have J : PySem.W.InstAt s.heap a { cls := .ref C, dict := some dd, data := .fields #[.ref t1, .none, .none, .none, .bool false, .none] } C (some od) := ⟨ho, rfl, rfl, hod⟩
      refine PySem.W.kia_one (PySem.W.kitx_exc T.cl T.ga T.gg T.ex T.kc T.sp T.tk T.mo) I.kIn J hk (fun z => nomatch z) ?_
      intro tk
      exact ⟨.bl b, H, I.kept (t' := tk) fun _ _ z => z, rfl, q⟩
/-- e.f -/
def tXo (K : PySem.W.Frag) (f : Str) (te : TE) : TE := fun σ H Q => te σ H fun x H1 => ∃ (a C dd : Addr) (fs : List (Str × V)) (v : V), x = .ref a ∧ XfC K C ∧ PySem.W.findIn K (.ref C) f = some none ∧ H1 a = some (exo a C (some dd)) ∧ H1 dd = some (exd dd fs) ∧ fs.lookup f = some v ∧ Q v H1
theorem pe_xo {X : Cx} {e : Expr} {te : TE} {pos : Pos} {n : Str} (he : PE X e te) (hb : attributeBase e n X.env (eval e X.env) = eval e X.env := by rfl) : PE X (.Attribute e n pos) (tXo X.K n te) := by
  refine ⟨fun pins s σ H Q I h => ?_⟩
  refine attr_of hb (thn (he.run pins s σ H _ I h) fun u s1 hh => ?_)
  obtain ⟨x, H1, I1, rx, a, C, dd, fs, v, ex, T, hno, ea, ed, l, q⟩ := hh
  subst ex
  obtain rfl : u = Value.ref a := rx
  obtain ⟨t1, ho⟩ := exo_at I1.hok ea
  obtain ⟨mA, hns, hr⟩ := exd_at I1.hok ed
  obtain ⟨od, hod, hl⟩ := lookIn_ns hns
  obtain ⟨u, hu, ru⟩ := RelO.some_of (v := v) (o := mA n) (by rw [← l]; exact hr n)
  have J : PySem.W.InstAt s1.heap a { cls := .ref C, dict := some dd, data := .fields #[.ref t1, .none, .none, .none, .bool false, .none] } C (some od) := ⟨ho, rfl, rfl, hod⟩
  exact HandSPX.exc_get I1.kIn J T.ga T.gg T.exC (PySem.W.findObj_own T.hdC hno rfl (by rw [hl, hu])) (handed_of ru) ⟨v, H1, I1.tok _, ru, q⟩
/-! ### the class of all of them -/
def baseB (K : PySem.W.Frag) (C f : Addr) : Bool := PySem.W.readsIn K C (.type "type") && (decide (PySem.W.specialIn K (.ref C) "__getattribute__" = some (some (.builtin "type.__getattribute__"))) && PySem.W.keepIn K (.ref f))
/-- how the class of all of them stands -/
structure BaseK (K : PySem.W.Frag) (mg : Str → Option Value) (nm q : Str) (st : Stmt) where
  C : Addr
  f : Addr
  fd : FuncData
  g : mg nm = some (.ref C)
  F : Fun K "__init__" q st f fd
  b : Binds K fd ["self", "value"] []
  rd : PySem.W.readsIn K C (.type "type") = true
  ga : PySem.W.specialIn K (.ref C) "__getattribute__" = some (some (.builtin "type.__getattribute__"))
  fi : PySem.W.findCls K (.ref C) (.type "type") "__init__" = some (.val (.ref f))
  kp : PySem.W.keepIn K (.ref f) = true
/-- how one of them stands -/
structure ErrK (K : PySem.W.Frag) (mg : Str → Option Value) (nm q : Str) (CM : Addr) (st : Stmt) where
  C : Addr
  f : Addr
  fd : FuncData
  g : mg nm = some (.ref C)
  F : Fun K "__init__" q st f fd
  b : Binds K fd ["self", "value"] []
  x : ErrX K C CM f nm
theorem base_ok {K : PySem.W.Frag} {C f : Addr} (h : baseB K C f = true) : PySem.W.readsIn K C (.type "type") = true ∧ PySem.W.specialIn K (.ref C) "__getattribute__" = some (some (.builtin "type.__getattribute__")) ∧ PySem.W.keepIn K (.ref f) = true := by
  unfold baseB at h
  simp only [Bool.and_eq_true, decide_eq_true_eq] at h
  exact h
/-! ### list.count of truths -/
def eqb (k : Bool) (v : Value) : Bool := match v with
  | .bool n => n == k
  | _ => false
def rCntB (K : PySem.W.Frag) : V → List V → Hp → VK → Prop := fun x xs H Q => ∃ (p : Addr) (ns : List Bool) (k : Bool), x = .ref p ∧ xs = [.bl k] ∧ SqL K H p (ns.map V.bl) ∧ Q (.int (ns.count k : Nat)) H
theorem vals_bl : ∀ {ns : List Bool} {us : List Value}, Vals (ns.map V.bl) us → us = ns.map Value.bool
  | [], us, r => by cases r; rfl
  | n :: ns, us, r => by
    cases r with
    | cons h r2 =>
      have e := vals_bl r2
      rw [e]
      cases (show _ = Value.bool n from h)
      rfl
theorem eqb_count (k : Bool) : ∀ ns : List Bool, (ns.map Value.bool).countP (eqb k) = ns.count k
  | [] => rfl
  | n :: ns => by
    rw [List.map_cons, List.countP_cons, List.count_cons, eqb_count k ns]
    rfl
theorem mt_bcount {X : Cx} : MtR X "list.count" (rCntB X.K) := by
  intro pins s σ H x xs v us Q I rx rxs h
  obtain ⟨p, ns, k, rfl, rfl, hs, q⟩ := h
  cases rx
  obtain ⟨u, rfl, ru⟩ := rxs.one
  obtain rfl : u = Value.bool k := ru
  obtain ⟨its, rv, ⟨⟨cls, dd, data, sl⟩, n, ho, hc, hdn, hd⟩, hlen⟩ := I.list hs
  simp only at hc hd
  subst hc hd
  have hi := vals_bl rv
  subst hi
  refine call_meets PySem.F.slot_list_count ⟨_, ho, rfl⟩ PySem.F.entry_list_count (PySem.F.args_list_count_2 _ _)
    (SeqAt.list_countAt p (ns.map Value.bool).toArray n dd sl (.bool k) (eqb k)) ⟨ho, fun y hy => ?_, ?_⟩
  · have hy' : y ∈ ns.map Value.bool := by simpa using hy
    obtain ⟨b, _, rfl⟩ := List.mem_map.mp hy'
    exact SeqAt.EqAt.bool_bool b k
  have ec : (ns.map Value.bool).toArray.toList.countP (eqb k) = ns.count k := eqb_count k ns
  refine ⟨.int (ns.count k : Nat), H, I.tok _, ⟨s.toks, ?_⟩, q⟩
  show Value.int (((ns.map Value.bool).toArray.toList.countP (eqb k) : Nat) : Int) s.toks = Value.int ((ns.count k : Nat) : Int) s.toks
  rw [ec]
end Jf
set_option Elab.async false
set_option linter.all false
set_option maxRecDepth 100000
set_option maxHeartbeats 4000000
namespace Jf
open PySem PySem.Spec PyProof.Rows L2 Evl
/-- list(xs): a new list, not at sys.modules -/
def rListN (K : PySem.W.Frag) : List V → Hp → VK → Prop := fun xs H Q => ∃ (p : Addr) (ys : List V), xs = [.ref p] ∧ (SqL K H p ys ∨ SqT K H p ys) ∧ ∀ l, H l = none → l ≠ sysModules → Q (.ref l) (upd H l (.lst ys))
theorem call_listN {X : Cx} : CallR X (.type "list") (rListN X.K) := by
  rintro pins s σ H xs us Q I r ⟨p, ys, rfl, from_, k⟩
  obtain ⟨u, rfl, ru⟩ := vals1 r
  cases ru
  have done : ∀ its : List Value, Vals ys its → ys.length ≤ sizeLine → ∀ (h' : Heap) (n : Nat), (∀ b o, s.heap.get? b = some o → h'.get? b = some o) → h'.get? s.heap.objs.size = some { cls := .type "list", dict := none, data := .seq its.toArray n, slots := #[] } →
      EP X pins σ Q (.ref s.heap.objs.size) { s with heap := h' } := by
    intro its vals len h' n kp e
    have hf : H s.heap.objs.size = none := I.hok.fresh (Nat.le_refl _)
    refine ⟨.ref _, upd H _ (.lst ys), I.laid (t' := s.toks) kp (Nat.le_refl _) ?_, rfl, k _ hf (Nat.ne_of_gt I.big)⟩
    exact ⟨len, its, n, vals, e⟩
  rcases from_ with h | h
  · obtain ⟨its, vals, pl, len⟩ := I.list h
    have e := vals.length
    obtain ⟨o, e1, e2, n, e3⟩ := pl.isList
    exact call_list_seq p (.inl rfl) e1 e2 e3 (done its vals len) (by simp only [List.size_toArray]; omega)
  · obtain ⟨its, vals, pl, len⟩ := I.tuple h
    have e := vals.length
    obtain ⟨o, e1, e2, n, e3⟩ := pl
    exact call_list_seq p (.inr rfl) e1 e2 e3 (done its vals len) (by simp only [List.size_toArray]; omega)
end Jf
set_option Elab.async false
set_option linter.all false
set_option maxRecDepth 100000
set_option maxHeartbeats 4000000
namespace Jf
open PySem PySem.Spec PyProof.Rows L2 Evl
/-! ### the signs of shown data are such as texts have -/
theorem so_all {x : Str} : PyData.strOk x = true ↔ ∀ c ∈ x.cps.toList, c < 0x110000 := by
  unfold PyData.strOk
  rw [← Array.all_toList, List.all_eq_true]
  constructor
  · exact fun h c hc => of_decide_eq_true (h c hc)
  · exact fun h c hc => decide_eq_true (h c hc)
theorem so_app {x y : Str} (h : PyData.strOk x = true) (h' : PyData.strOk y = true) : PyData.strOk (x ++ y) = true := by
  rw [so_all] at *
  intro c hc
  have e : (x ++ y).cps.toList = x.cps.toList ++ y.cps.toList := by
    show (x.cps ++ y.cps).toList = _
    rw [Array.toList_append]
  rw [e] at hc
  rcases List.mem_append.mp hc with hc | hc
  · exact h c hc
  · exact h' c hc
theorem so_str (s : String) : PyData.strOk (s : Str) = true := by
  rw [so_all]
  intro c hc
  rw [show ((s : Str)) = ⟨(s.toList.map Char.toNat).toArray⟩ from Str.ofString_eq_toList s] at hc
  simp only [List.mem_map] at hc
  obtain ⟨d, _, rfl⟩ := hc
  have := d.valid
  unfold UInt32.isValidChar Nat.isValidChar at this
  show d.val.toNat < 0x110000
  omega
theorem so_from : ∀ (ts : List Str) (k : Nat) (acc : Str), PyData.strOk acc = true → (∀ t ∈ ts, PyData.strOk t = true) → PyData.strOk (textFrom k acc ts) = true
  | [], _, _, h, _ => h
  | t :: ts, k, acc, h, hs => so_from ts _ _ (so_app (so_app h (by split <;> exact so_str _)) (hs t List.mem_cons_self)) fun u hu => hs u (List.mem_cons_of_mem _ hu)
theorem so_join : ∀ (ts : List Str), (∀ t ∈ ts, PyData.strOk t = true) → PyData.strOk (Str.join ", " ts) = true
  | [], _ => so_all.mpr fun c hc => by simp [Str.join, Str.empty] at hc
  | [t], hs => hs t List.mem_cons_self
  | t :: u :: ts, hs => by
    show PyData.strOk (t ++ ", " ++ Str.join ", " (u :: ts)) = true
    exact so_app (so_app (hs t List.mem_cons_self) (so_str _)) (so_join (u :: ts) fun v hv => hs v (List.mem_cons_of_mem _ hv))
mutual
/-- no list of more than two within, no dict, and no odd sign -/
def short : PyData → Bool
  | .list ds => decide (ds.length ≤ 2) && shortAll ds
  | .tuple ds => shortAll ds
  | .str x => PyData.strOk (reprText x)
  | .dict _ => false
  | _ => true
def shortAll : List PyData → Bool
  | [] => true
  | d :: ds => short d && shortAll ds
end
mutual
theorem so_shown : ∀ d : PyData, short d = true → PyData.strOk d.shown = true
  | .none, _ => so_str _
  | .bool b, _ => by
    simp only [PyData.shown]
    split <;> exact so_str _
  | .int i, _ => by
    simp only [PyData.shown]
    exact so_str _
  | .str x, h => by
    simp only [PyData.shown]
    exact h
  | .list ds, h => by
    simp only [short, Bool.and_eq_true] at h
    simp only [PyData.shown, listText]
    exact so_app (so_from _ _ _ (so_str _) (so_shownAll ds h.2)) (so_str _)
  | .tuple ds, h => by
    simp only [short] at h
    simp only [PyData.shown, tupleText]
    exact so_app (so_app (so_str _) (so_join _ (so_shownAll ds h))) (by split <;> exact so_str _)
  | .dict _, h => by simp [short] at h
theorem so_shownAll : ∀ ds : List PyData, shortAll ds = true → ∀ t ∈ PyData.shownAll ds, PyData.strOk t = true
  | [], _, t, ht => by simp [PyData.shownAll] at ht
  | d :: ds, h, t, ht => by
    simp only [shortAll, Bool.and_eq_true] at h
    simp only [PyData.shownAll, List.mem_cons] at ht
    rcases ht with rfl | ht
    · exact so_shown d h.1
    · exact so_shownAll ds h.2 t ht
end
end Jf
set_option Elab.async false
set_option linter.all false
set_option maxRecDepth 100000
set_option maxHeartbeats 4000000
namespace Jf
open PySem PySem.Spec PyProof.Rows L2 Evl
/-! ### the text -/
def topS (i : Nat) : Stmt := PySem.Challenge.pw_onenumber_k02_pairs.main.body.getD i (.Pass ⟨0, 0, 0, 0⟩)
abbrev s_is_whole : Stmt := topS 6
abbrev n_is_whole : List Str := ["value"]
abbrev s_is_fraction : Stmt := topS 7
abbrev n_is_fraction : List Str := ["value", "top", "bottom"]
abbrev s_require_fraction : Stmt := topS 8
abbrev n_require_fraction : List Str := ["value"]
abbrev s_lowest : Stmt := topS 9
abbrev n_lowest : List Str := ["top", "bottom", "common"]
abbrev s_multiply : Stmt := topS 10
abbrev n_multiply : List Str := ["one", "other"]
abbrev s_add_all : Stmt := topS 11
abbrev n_add_all : List Str := ["fractions", "bottom", "_", "below", "top"]
abbrev s_is_pair : Stmt := topS 13
abbrev n_is_pair : List Str := ["value"]
abbrev s_require_pair : Stmt := topS 14
abbrev n_require_pair : List Str := ["value"]
abbrev s_require_pairs : Stmt := topS 15
abbrev n_require_pairs : List Str := ["values", "value"]
abbrev s_arrow : Stmt := topS 16
abbrev n_arrow : List Str := ["pair", "pay", "pay_bottom", "fall", "fall_bottom", "across", "along", "common"]
abbrev s_turn : Stmt := topS 17
abbrev n_turn : List Str := ["one", "other"]
abbrev s_turn_of_pairs : Stmt := topS 18
abbrev n_turn_of_pairs : List Str := ["one", "other"]
abbrev s_add_pairs : Stmt := topS 19
abbrev n_add_pairs : List Str := ["pairs", "pay", "_", "fall"]
abbrev s_multiply_pair : Stmt := topS 20
abbrev n_multiply_pair : List Str := ["pair", "share"]
abbrev s_is_ahead : Stmt := topS 21
abbrev n_is_ahead : List Str := ["one", "other"]
abbrev s_are_level : Stmt := topS 22
abbrev n_are_level : List Str := ["one", "other"]
abbrev s_total : Stmt := topS 23
abbrev n_total : List Str := ["pairs"]
abbrev s_spread : Stmt := topS 24
abbrev n_spread : List Str := ["pair", "share"]
abbrev s__law_spread : Stmt := topS 26
abbrev n__law_spread : List Str := ["_law_cell", "_law_at", "_law_primes", "_law_mixed", "_law_one_here", "_law_rest", "_law_two", "_law_three"]
abbrev s__law_open : Stmt := topS 27
abbrev n__law_open : List Str := ["_law_script", "_law_cells", "_law_k", "_law_cell"]
abbrev s__law_take : Stmt := topS 28
abbrev n__law_take : List Str := ["_law_pen", "_law_many", "_law_at", "_law_cell", "_law_found"]
abbrev s__law_anew : Stmt := topS 29
abbrev n__law_anew : List Str := ["_law_pen"]
abbrev s__law_one : Stmt := topS 30
abbrev n__law_one : List Str := ["_law_pen", "_law_some"]
abbrev s__law_is_whole : Stmt := topS 31
abbrev n__law_is_whole : List Str := ["_law_value"]
abbrev s__law_common : Stmt := topS 32
abbrev n__law_common : List Str := ["_law_one_here", "_law_other", "_law_step"]
abbrev s__law_low : Stmt := topS 33
abbrev n__law_low : List Str := ["_law_top", "_law_bottom", "_law_common_here", "_law_sign_here"]
abbrev s__law_add : Stmt := topS 34
abbrev n__law_add : List Str := ["_law_one_here", "_law_other"]
abbrev s__law_sub : Stmt := topS 35
abbrev n__law_sub : List Str := ["_law_one_here", "_law_other"]
abbrev s__law_mul : Stmt := topS 36
abbrev n__law_mul : List Str := ["_law_one_here", "_law_other"]
abbrev s__law_sign : Stmt := topS 37
abbrev n__law_sign : List Str := ["_law_one_here"]
abbrev s__law_turn : Stmt := topS 38
abbrev n__law_turn : List Str := ["_law_one_here", "_law_other"]
abbrev s__law_join : Stmt := topS 39
abbrev n__law_join : List Str := ["_law_one_here", "_law_other"]
abbrev s__law_times : Stmt := topS 40
abbrev n__law_times : List Str := ["_law_pair", "_law_portion"]
abbrev s__law_none : Stmt := topS 41
abbrev n__law_none : List Str := []
abbrev s__law_amount : Stmt := topS 42
abbrev n__law_amount : List Str := ["_law_pen", "_law_some"]
abbrev s__law_any : Stmt := topS 43
abbrev n__law_any : List Str := ["_law_pen", "_law_pair", "_law_some"]
abbrev s__law_is : Stmt := topS 44
abbrev n__law_is : List Str := ["_law_value", "_law_part"]
abbrev s__law_call : Stmt := topS 45
abbrev n__law_call : List Str := ["_law_word", "_law_one_here", "_law_other"]
abbrev s__law_told : Stmt := topS 46
abbrev n__law_told : List Str := ["_law_word", "_law_one_here", "_law_other", "_law_kept", "_law_found", "e"]
abbrev s__law_first_bad : Stmt := topS 47
abbrev n__law_first_bad : List Str := ["_law_values", "_law_found", "_law_value"]
abbrev s_law : Stmt := topS 48
abbrev n_law : List Str := ["_law_script", "_law_pen", "_law_time", "_law_one_here", "_law_other", "_law_due", "_law_turn_here", "_law_some", "_law_sum_of", "_law_pair", "_law_portion", "_law_k"]
abbrev s_i_MixError : Stmt := inClass (topS 2) 0
theorem sc_i_MixError : FnScope ["self", "value"] ["self", "value"] (defScope s_i_MixError) := ⟨rfl, rfl, rfl, by decide +kernel, rfl, by decide +kernel, by decide +kernel⟩
abbrev s_i_BadFraction : Stmt := inClass (topS 3) 0
theorem sc_i_BadFraction : FnScope ["self", "value"] ["self", "value"] (defScope s_i_BadFraction) := ⟨rfl, rfl, rfl, by decide +kernel, rfl, by decide +kernel, by decide +kernel⟩
abbrev s_i_BadPair : Stmt := inClass (topS 4) 0
theorem sc_i_BadPair : FnScope ["self", "value"] ["self", "value"] (defScope s_i_BadPair) := ⟨rfl, rfl, rfl, by decide +kernel, rfl, by decide +kernel, by decide +kernel⟩
theorem sc_is_whole : FnScope ["value"] ["value"] (defScope s_is_whole) := ⟨rfl, rfl, rfl, by decide +kernel, rfl, by decide +kernel, by decide +kernel⟩
theorem sc_is_fraction : FnScope ["value", "top", "bottom"] ["value"] (defScope s_is_fraction) := ⟨rfl, rfl, rfl, by decide +kernel, rfl, by decide +kernel, by decide +kernel⟩
theorem sc_require_fraction : FnScope ["value"] ["value"] (defScope s_require_fraction) := ⟨rfl, rfl, rfl, by decide +kernel, rfl, by decide +kernel, by decide +kernel⟩
theorem sc_lowest : FnScope ["top", "bottom", "common"] ["top", "bottom"] (defScope s_lowest) := ⟨rfl, rfl, rfl, by decide +kernel, rfl, by decide +kernel, by decide +kernel⟩
theorem sc_multiply : FnScope ["one", "other"] ["one", "other"] (defScope s_multiply) := ⟨rfl, rfl, rfl, by decide +kernel, rfl, by decide +kernel, by decide +kernel⟩
theorem sc_add_all : FnScope ["fractions", "bottom", "_", "below", "top"] ["fractions"] (defScope s_add_all) := ⟨rfl, rfl, rfl, by decide +kernel, rfl, by decide +kernel, by decide +kernel⟩
theorem sc_is_pair : FnScope ["value"] ["value"] (defScope s_is_pair) := ⟨rfl, rfl, rfl, by decide +kernel, rfl, by decide +kernel, by decide +kernel⟩
theorem sc_require_pair : FnScope ["value"] ["value"] (defScope s_require_pair) := ⟨rfl, rfl, rfl, by decide +kernel, rfl, by decide +kernel, by decide +kernel⟩
theorem sc_require_pairs : FnScope ["values", "value"] ["values"] (defScope s_require_pairs) := ⟨rfl, rfl, rfl, by decide +kernel, rfl, by decide +kernel, by decide +kernel⟩
theorem sc_arrow : FnScope ["pair", "pay", "pay_bottom", "fall", "fall_bottom", "across", "along", "common"] ["pair"] (defScope s_arrow) := ⟨rfl, rfl, rfl, by decide +kernel, rfl, by decide +kernel, by decide +kernel⟩
theorem sc_turn : FnScope ["one", "other"] ["one", "other"] (defScope s_turn) := ⟨rfl, rfl, rfl, by decide +kernel, rfl, by decide +kernel, by decide +kernel⟩
theorem sc_turn_of_pairs : FnScope ["one", "other"] ["one", "other"] (defScope s_turn_of_pairs) := ⟨rfl, rfl, rfl, by decide +kernel, rfl, by decide +kernel, by decide +kernel⟩
theorem sc_add_pairs : FnScope ["pairs", "pay", "_", "fall"] ["pairs"] (defScope s_add_pairs) := ⟨rfl, rfl, rfl, by decide +kernel, rfl, by decide +kernel, by decide +kernel⟩
theorem sc_multiply_pair : FnScope ["pair", "share"] ["pair", "share"] (defScope s_multiply_pair) := ⟨rfl, rfl, rfl, by decide +kernel, rfl, by decide +kernel, by decide +kernel⟩
theorem sc_is_ahead : FnScope ["one", "other"] ["one", "other"] (defScope s_is_ahead) := ⟨rfl, rfl, rfl, by decide +kernel, rfl, by decide +kernel, by decide +kernel⟩
theorem sc_are_level : FnScope ["one", "other"] ["one", "other"] (defScope s_are_level) := ⟨rfl, rfl, rfl, by decide +kernel, rfl, by decide +kernel, by decide +kernel⟩
theorem sc_total : FnScope ["pairs"] ["pairs"] (defScope s_total) := ⟨rfl, rfl, rfl, by decide +kernel, rfl, by decide +kernel, by decide +kernel⟩
theorem sc_spread : FnScope ["pair", "share"] ["pair", "share"] (defScope s_spread) := ⟨rfl, rfl, rfl, by decide +kernel, rfl, by decide +kernel, by decide +kernel⟩
theorem sc__law_spread : FnScope ["_law_cell", "_law_at", "_law_primes", "_law_mixed", "_law_one_here", "_law_rest", "_law_two", "_law_three"] ["_law_cell", "_law_at"] (defScope s__law_spread) := ⟨rfl, rfl, rfl, by decide +kernel, rfl, by decide +kernel, by decide +kernel⟩
theorem sc__law_open : FnScope ["_law_script", "_law_cells", "_law_k", "_law_cell"] ["_law_script"] (defScope s__law_open) := ⟨rfl, rfl, rfl, by decide +kernel, rfl, by decide +kernel, by decide +kernel⟩
theorem sc__law_take : FnScope ["_law_pen", "_law_many", "_law_at", "_law_cell", "_law_found"] ["_law_pen", "_law_many"] (defScope s__law_take) := ⟨rfl, rfl, rfl, by decide +kernel, rfl, by decide +kernel, by decide +kernel⟩
theorem sc__law_anew : FnScope ["_law_pen"] ["_law_pen"] (defScope s__law_anew) := ⟨rfl, rfl, rfl, by decide +kernel, rfl, by decide +kernel, by decide +kernel⟩
theorem sc__law_one : FnScope ["_law_pen", "_law_some"] ["_law_pen", "_law_some"] (defScope s__law_one) := ⟨rfl, rfl, rfl, by decide +kernel, rfl, by decide +kernel, by decide +kernel⟩
theorem sc__law_is_whole : FnScope ["_law_value"] ["_law_value"] (defScope s__law_is_whole) := ⟨rfl, rfl, rfl, by decide +kernel, rfl, by decide +kernel, by decide +kernel⟩
theorem sc__law_common : FnScope ["_law_one_here", "_law_other", "_law_step"] ["_law_one_here", "_law_other"] (defScope s__law_common) := ⟨rfl, rfl, rfl, by decide +kernel, rfl, by decide +kernel, by decide +kernel⟩
theorem sc__law_low : FnScope ["_law_top", "_law_bottom", "_law_common_here", "_law_sign_here"] ["_law_top", "_law_bottom"] (defScope s__law_low) := ⟨rfl, rfl, rfl, by decide +kernel, rfl, by decide +kernel, by decide +kernel⟩
theorem sc__law_add : FnScope ["_law_one_here", "_law_other"] ["_law_one_here", "_law_other"] (defScope s__law_add) := ⟨rfl, rfl, rfl, by decide +kernel, rfl, by decide +kernel, by decide +kernel⟩
theorem sc__law_sub : FnScope ["_law_one_here", "_law_other"] ["_law_one_here", "_law_other"] (defScope s__law_sub) := ⟨rfl, rfl, rfl, by decide +kernel, rfl, by decide +kernel, by decide +kernel⟩
theorem sc__law_mul : FnScope ["_law_one_here", "_law_other"] ["_law_one_here", "_law_other"] (defScope s__law_mul) := ⟨rfl, rfl, rfl, by decide +kernel, rfl, by decide +kernel, by decide +kernel⟩
theorem sc__law_sign : FnScope ["_law_one_here"] ["_law_one_here"] (defScope s__law_sign) := ⟨rfl, rfl, rfl, by decide +kernel, rfl, by decide +kernel, by decide +kernel⟩
theorem sc__law_turn : FnScope ["_law_one_here", "_law_other"] ["_law_one_here", "_law_other"] (defScope s__law_turn) := ⟨rfl, rfl, rfl, by decide +kernel, rfl, by decide +kernel, by decide +kernel⟩
theorem sc__law_join : FnScope ["_law_one_here", "_law_other"] ["_law_one_here", "_law_other"] (defScope s__law_join) := ⟨rfl, rfl, rfl, by decide +kernel, rfl, by decide +kernel, by decide +kernel⟩
theorem sc__law_times : FnScope ["_law_pair", "_law_portion"] ["_law_pair", "_law_portion"] (defScope s__law_times) := ⟨rfl, rfl, rfl, by decide +kernel, rfl, by decide +kernel, by decide +kernel⟩
theorem sc__law_none : FnScope [] [] (defScope s__law_none) := ⟨rfl, rfl, rfl, by decide +kernel, rfl, by decide +kernel, by decide +kernel⟩
theorem sc__law_amount : FnScope ["_law_pen", "_law_some"] ["_law_pen"] (defScope s__law_amount) := ⟨rfl, rfl, rfl, by decide +kernel, rfl, by decide +kernel, by decide +kernel⟩
theorem sc__law_any : FnScope ["_law_pen", "_law_pair", "_law_some"] ["_law_pen"] (defScope s__law_any) := ⟨rfl, rfl, rfl, by decide +kernel, rfl, by decide +kernel, by decide +kernel⟩
theorem sc__law_is : FnScope ["_law_value", "_law_part"] ["_law_value"] (defScope s__law_is) := ⟨rfl, rfl, rfl, by decide +kernel, rfl, by decide +kernel, by decide +kernel⟩
theorem sc__law_call : FnScope ["_law_word", "_law_one_here", "_law_other"] ["_law_word", "_law_one_here", "_law_other"] (defScope s__law_call) := ⟨rfl, rfl, rfl, by decide +kernel, rfl, by decide +kernel, by decide +kernel⟩
theorem sc__law_told : FnScope ["_law_word", "_law_one_here", "_law_other", "_law_kept", "_law_found", "e"] ["_law_word", "_law_one_here", "_law_other"] (defScope s__law_told) := ⟨rfl, rfl, rfl, by decide +kernel, rfl, by decide +kernel, by decide +kernel⟩
theorem sc__law_first_bad : FnScope ["_law_values", "_law_found", "_law_value"] ["_law_values"] (defScope s__law_first_bad) := ⟨rfl, rfl, rfl, by decide +kernel, rfl, by decide +kernel, by decide +kernel⟩
theorem sc_law : FnScope ["_law_script", "_law_pen", "_law_time", "_law_one_here", "_law_other", "_law_due", "_law_turn_here", "_law_some", "_law_sum_of", "_law_pair", "_law_portion", "_law_k"] ["_law_script"] (defScope s_law) := ⟨rfl, rfl, rfl, by decide +kernel, rfl, by decide +kernel, by decide +kernel⟩
/-- what the top has written -/
structure Txt (K : PySem.W.Frag) (mg : Str → Option Value) where
  d_is_whole : FT K mg "is_whole" s_is_whole ["value"]
  d_is_fraction : FT K mg "is_fraction" s_is_fraction ["value"]
  d_require_fraction : FT K mg "require_fraction" s_require_fraction ["value"]
  d_lowest : FT K mg "lowest" s_lowest ["top", "bottom"]
  d_multiply : FT K mg "multiply" s_multiply ["one", "other"]
  d_add_all : FT K mg "add_all" s_add_all ["fractions"]
  d_is_pair : FT K mg "is_pair" s_is_pair ["value"]
  d_require_pair : FT K mg "require_pair" s_require_pair ["value"]
  d_require_pairs : FT K mg "require_pairs" s_require_pairs ["values"]
  d_arrow : FT K mg "arrow" s_arrow ["pair"]
  d_turn : FT K mg "turn" s_turn ["one", "other"]
  d_turn_of_pairs : FT K mg "turn_of_pairs" s_turn_of_pairs ["one", "other"]
  d_add_pairs : FT K mg "add_pairs" s_add_pairs ["pairs"]
  d_multiply_pair : FT K mg "multiply_pair" s_multiply_pair ["pair", "share"]
  d_is_ahead : FT K mg "is_ahead" s_is_ahead ["one", "other"]
  d_are_level : FT K mg "are_level" s_are_level ["one", "other"]
  d_total : FT K mg "total" s_total ["pairs"]
  d_spread : FT K mg "spread" s_spread ["pair", "share"]
  d__law_spread : FT K mg "_law_spread" s__law_spread ["_law_cell", "_law_at"]
  d__law_open : FT K mg "_law_open" s__law_open ["_law_script"]
  d__law_take : FT K mg "_law_take" s__law_take ["_law_pen", "_law_many"]
  d__law_anew : FT K mg "_law_anew" s__law_anew ["_law_pen"]
  d__law_one : FT K mg "_law_one" s__law_one ["_law_pen", "_law_some"]
  d__law_is_whole : FT K mg "_law_is_whole" s__law_is_whole ["_law_value"]
  d__law_common : FT K mg "_law_common" s__law_common ["_law_one_here", "_law_other"]
  d__law_low : FT K mg "_law_low" s__law_low ["_law_top", "_law_bottom"]
  d__law_add : FT K mg "_law_add" s__law_add ["_law_one_here", "_law_other"]
  d__law_sub : FT K mg "_law_sub" s__law_sub ["_law_one_here", "_law_other"]
  d__law_mul : FT K mg "_law_mul" s__law_mul ["_law_one_here", "_law_other"]
  d__law_sign : FT K mg "_law_sign" s__law_sign ["_law_one_here"]
  d__law_turn : FT K mg "_law_turn" s__law_turn ["_law_one_here", "_law_other"]
  d__law_join : FT K mg "_law_join" s__law_join ["_law_one_here", "_law_other"]
  d__law_times : FT K mg "_law_times" s__law_times ["_law_pair", "_law_portion"]
  d__law_none : FT K mg "_law_none" s__law_none []
  d__law_amount : FT K mg "_law_amount" s__law_amount ["_law_pen"]
  d__law_any : FT K mg "_law_any" s__law_any ["_law_pen"]
  d__law_is : FT K mg "_law_is" s__law_is ["_law_value"]
  d__law_call : FT K mg "_law_call" s__law_call ["_law_word", "_law_one_here", "_law_other"]
  d__law_told : FT K mg "_law_told" s__law_told ["_law_word", "_law_one_here", "_law_other"]
  d__law_first_bad : FT K mg "_law_first_bad" s__law_first_bad ["_law_values"]
  d_law : FT K mg "law" s_law ["_law_script"]
  n_abs : mg "abs" = none
  n_bool : mg "bool" = none
  n_enumerate : mg "enumerate" = none
  n_int : mg "int" = none
  n_isinstance : mg "isinstance" = none
  n_len : mg "len" = none
  n_list : mg "list" = none
  n_range : mg "range" = none
  n_repr : mg "repr" = none
  n_sum : mg "sum" = none
  n_tuple : mg "tuple" = none
  n_gcd : mg "gcd" = some (.builtin "math.gcd")
  c_add_all : Addr
  P_add_all : Addr
  h_add_all : d_add_all.fd.code = .ref c_add_all
  n_ValueError : mg "ValueError" = none
  v_VE : PySem.W.findCls K (.type "ValueError") (.type "type") "__init__" = some (.val (.builtin "ValueError.__init__"))
  M : BaseK K mg "MixError" "MixError.__init__" s_i_MixError
  E_BadFraction : ErrK K mg "BadFraction" "BadFraction.__init__" M.C s_i_BadFraction
  E_BadPair : ErrK K mg "BadPair" "BadPair.__init__" M.C s_i_BadPair
/-! ### the law's own draws -/
/-- all but what stands at p is as it was -/
def ExB (p : Addr) (H H' : Hp) : Prop := ∀ b o, b ≠ p → H b = some o → H' b = some o
theorem ExB.refl (p : Addr) (H : Hp) : ExB p H H := fun _ _ _ h => h
theorem ExB.trans {p : Addr} {H H1 H2 : Hp} (a : ExB p H H1) (b : ExB p H1 H2) : ExB p H H2 := fun c o n h => b c o n (a c o n h)
theorem Ex.b {p : Addr} {H H1 : Hp} (a : Ex H H1) : ExB p H H1 := fun c o _ h => a c o h
theorem ExB.upd {p : Addr} {H H1 : Hp} {o : HO} (a : ExB p H H1) : ExB p H (upd H1 p o) := fun c o n h => by
  rw [upd_ne n]
  exact a c o n h
/-- the pen at p: its cells, its place, its rest -/
def Pen (H : Hp) (p a : Addr) (N : Nat) : Prop := ∃ (cs : List Int) (at_ vl : Int), H p = some (.lst [.ref a, .int at_, .int vl]) ∧ H a = some (.lst (cs.map V.int)) ∧ a ≠ p ∧ 0 ≤ at_ ∧ at_ ≤ N ∧ 0 ≤ vl ∧ cs.length ≤ 12
theorem Pen.ex {H H' : Hp} {p a : Addr} {N : Nat} (e : Ex H H') (h : Pen H p a N) : Pen H' p a N := by
  obtain ⟨cs, t, v, h1, h2, r⟩ := h
  exact ⟨cs, t, v, e _ _ h1, e _ _ h2, r⟩
theorem Pen.mono {H : Hp} {p a : Addr} {N M : Nat} (e : N ≤ M) (h : Pen H p a N) : Pen H p a M := by
  obtain ⟨cs, t, v, h1, h2, h3, h4, h5, r⟩ := h
  exact ⟨cs, t, v, h1, h2, h3, h4, by omega, r⟩
theorem Pen.hasP {H : Hp} {p a : Addr} {N : Nat} (h : Pen H p a N) : ∃ xs, H p = some (.lst xs) := by
  obtain ⟨cs, t, v, h1, _⟩ := h
  exact ⟨_, h1⟩
theorem Pen.hasC {H : Hp} {p a : Addr} {N : Nat} (h : Pen H p a N) : ∃ xs, H a = some (.lst xs) := by
  obtain ⟨cs, t, v, _, h1, _⟩ := h
  exact ⟨_, h1⟩
/-- a new or another object's store leaves it -/
theorem Pen.upd {H : Hp} {p a q : Addr} {N : Nat} {o : HO} (h : Pen H p a N) (h1 : q ≠ p) (h2 : q ≠ a) : Pen (upd H q o) p a N := by
  obtain ⟨cs, t, v, e1, e2, r⟩ := h
  exact ⟨cs, t, v, by rw [upd_ne h1.symm]; exact e1, by rw [upd_ne h2.symm]; exact e2, r⟩
/-- a tuple stays where a list changes -/
theorem tup_lst {K : PySem.W.Frag} {H H' : Hp} {p c : Addr} {xs ys : List V} (hp : H p = some (.lst xs)) (e : ExB p H H') (h : SqT K H c ys) : SqT K H' c ys := by
  rcases h with (h | ⟨o, h⟩) | h
  · exact .inl (.inl (e c _ (by rintro rfl; rw [hp] at h; cases h) h))
  · exact .inl (.inr ⟨o, e c _ (by rintro rfl; rw [hp] at h; cases h) h⟩)
  · exact .inr h
theorem Fr.lst {K : PySem.W.Frag} {H H' : Hp} {p : Addr} {xs : List V} {b : Nat} {q : Rat} {z : V} (hp : H p = some (.lst xs)) (e : ExB p H H') (h : Fr K b q z H) : Fr K b q z H' := by
  obtain ⟨c, rfl, h, x⟩ := h
  exact ⟨c, rfl, tup_lst hp e h, x⟩
/-- a way through a block, joined behind its first statement -/
theorem s_join {t u : TS} {D : Ends} {σ : L2.St} {H : Hp} (R : L2.St → Hp → Prop) (h1 : ∀ N : L2.St → Hp → Prop, (∀ σ H, R σ H → N σ H) → t { D with nx := N } σ H) (h2 : ∀ σ H, R σ H → u D σ H) : tSeq t u D σ H := h1 (u D) h2
theorem n_seq {t u : TS} {D : Ends} {σ : L2.St} {H : Hp} (h : t { D with nx := u D } σ H) : tSeq t u D σ H := h
theorem n_c {i : Nat} {v : V} {D : Ends} {σ : L2.St} {H : Hp} (h : D.nx (σ.set i (some v)) H) : tAsg (tC v) (gName i) D σ H := h
theorem atI_map {ms : List Int} {i : Int} (h0 : 0 ≤ i) (h : i < ms.length) : ∃ x, atI (ms.map V.int) i = some (.int x) := by
  obtain ⟨k, rfl⟩ : ∃ k : Nat, i = k := ⟨i.toNat, by omega⟩
  have hk : k < ms.length := by omega
  exact ⟨ms[k], atI_nat (by rw [List.getElem?_map, List.getElem?_eq_getElem hk]; rfl)⟩
def primes : List Int := [2147483629, 2147483587, 2147483579, 2147483563, 2147483549, 2147483543, 2147483497, 2147483489, 2147483477, 2147483423, 2147483399, 2147483353, 2147483323]
theorem prime_at {i : Int} (h0 : 0 ≤ i) (h : i < 13) : ∃ x : Int, atI (primes.map V.int) i = some (.int x) ∧ 0 < x ∧ x < 2147483648 := by
  have hk : ∀ k : Fin 13, ∃ x : Int, (primes.map V.int)[k.val]? = some (.int x) ∧ 0 < x ∧ x < 2147483648 := fun k => by
    have hl : k.val < primes.length := k.isLt
    refine ⟨primes[k.val], by rw [List.getElem?_map, List.getElem?_eq_getElem hl]; rfl, ?_⟩
    have : ∀ x ∈ primes, 0 < x ∧ x < 2147483648 := by decide
    exact this _ (List.getElem_mem hl)
  obtain ⟨x, e, hx⟩ := hk ⟨i.toNat, by omega⟩
  refine ⟨x, ?_, hx⟩
  have e2 := atI_nat e
  rwa [show ((i.toNat : Nat) : Int) = i by omega] at e2
theorem b64 {i : Int} (h0 : 0 ≤ i) (h : i < 18446744073709551616) : i.natAbs < 2 ^ 64 := by
  show i.natAbs < 18446744073709551616
  omega
section
variable {P : Program} {w : World} {K : PySem.W.Frag} {mg : Str → Option Value} {base : Heap}
def spSpread : Sp := fun vs H Q _ => ∃ c t : Int, vs = [.int c, .int t] ∧ 0 ≤ t ∧ t ≤ 1000 ∧ ∀ v H', 0 ≤ v → Ex H H' → Q (.int v) H'
theorem ok__law_spread (T : Txt K mg) : FnOk P w K mg base CX0 1 T.d__law_spread.a T.d__law_spread.fd ["_law_cell", "_law_at"] spSpread := by
  refine T.d__law_spread.F.ok sc__law_spread (fun vs H Q E h => ?_) (fun cdv A outer s H vs Q E hr h => ?_)
  · obtain ⟨c, t, rfl, _⟩ := h
    rfl
  · obtain ⟨c, t, rfl, h0, h1, k⟩ := h
    refine ⟨_, (pss_cons (ps_if (pt_cmpR op_ge (pv 0) (pe_op op_pow pe_int pe_int) (nomark _)) (pss_one (ps_ret (pv 0))) pss_nil)
      (pss_cons (ps_set (i := 2) sc__law_spread.nd rfl (Or.inl rfl) (pe_lst (pa_cons pe_int (pa_cons pe_int (pa_cons pe_int (pa_cons pe_int (pa_cons pe_int (pa_cons pe_int (pa_cons pe_int pa_nil)))))))))
      (pss_cons (ps_set (i := 2) sc__law_spread.nd rfl (Or.inl rfl) (pe_op op_cat (pv 2) (pe_lst (pa_cons pe_int (pa_cons pe_int (pa_cons pe_int (pa_cons pe_int (pa_cons pe_int (pa_cons pe_int pa_nil)))))))))
      (pss_cons (ps_set (i := 3) sc__law_spread.nd rfl (Or.inl rfl) (pe_op op_add (pe_op op_add (pe_op op_mulW (pe_op op_mod (pe_callTy call_int1 (by rfl) T.n_int (by decide +kernel) (pa_cons (pv 0) pa_nil)) pe_int) (pe_op op_add (pe_op op_mulW pe_int (pv 1)) pe_int)) (pe_op op_mulW (pv 1) pe_int)) pe_int))
      (pss_cons (ps_set (i := 4) sc__law_spread.nd rfl (Or.inl rfl) (pe_op op_mod (pe_callTy call_int1 (by rfl) T.n_int (by decide +kernel) (pa_cons (pe_op op_pow (pv 3) pe_int) pa_nil)) (pe_ix ix_list (pv 2) (pe_op op_mod (pe_callTy call_int1 (by rfl) T.n_int (by decide +kernel) (pa_cons (pv 1) pa_nil)) pe_int) (fun _ _ => rfl))))
      (pss_cons (ps_set (i := 5) sc__law_spread.nd rfl (Or.inl rfl) (pe_op op_add (pe_op op_mod (pe_callTy call_int1 (by rfl) T.n_int (by decide +kernel) (pa_cons (pv 0) pa_nil)) pe_int) pe_int))
      (pss_cons (ps_set (i := 6) sc__law_spread.nd rfl (Or.inl rfl) (pe_op op_mod (pe_callTy call_int1 (by rfl) T.n_int (by decide +kernel) (pa_cons (pe_op op_pow (pe_op op_add (pe_op op_mulW (pv 4) (pe_op op_add (pv 1) pe_int)) (pv 5)) pe_int) pa_nil)) (pe_ix ix_list (pv 2) (pe_op op_mod (pe_callTy call_int1 (by rfl) T.n_int (by decide +kernel) (pa_cons (pe_op op_add (pv 1) pe_int) pa_nil)) pe_int) (fun _ _ => rfl))))
      (pss_cons (ps_set (i := 7) sc__law_spread.nd rfl (Or.inl rfl) (pe_op op_mod (pe_callTy call_int1 (by rfl) T.n_int (by decide +kernel) (pa_cons (pe_op op_pow (pe_op op_add (pe_op op_add (pv 6) (pe_op op_mod (pe_callTy call_int1 (by rfl) T.n_int (by decide +kernel) (pa_cons (pv 4) pa_nil)) pe_int)) (pv 1)) pe_int) pa_nil)) (pe_ix ix_list (pv 2) (pe_op op_mod (pe_callTy call_int1 (by rfl) T.n_int (by decide +kernel) (pa_cons (pe_op op_add (pv 1) pe_int) pa_nil)) pe_int) (fun _ _ => rfl))))
      (pss_one (ps_ret (pe_op op_add (pe_op op_mulW (pe_op op_add (pe_op op_mulW (pv 4) pe_int) (pv 6)) pe_int) (pv 7)))))))))))), ?_⟩
    -- if cell >= 10 ** 18
    refine ⟨_, rfl, 10, 18, rfl, rfl, ⟨by decide, by decide, by decide⟩, c, _, rfl, rfl, _, rfl, ite2 (fun e => ?_) (fun e => ?_)⟩
    · have e' : (10 : Int) ^ (18 : Int).toNat ≤ c := of_decide_eq_true e
      have e2 : (10 : Int) ^ (18 : Int).toNat = 1000000000000000000 := by decide
      exact ⟨_, rfl, k c H (by omega) (Ex.refl H)⟩
    · -- the primes
      refine ⟨by show 7 ≤ sizeLine; decide, fun p1 f1 => ?_⟩
      refine ⟨.ref p1, rfl, by show 6 ≤ sizeLine; decide, fun p2 f2 => ?_⟩
      have n12 : p1 ≠ p2 := fun z => by
        rw [← z, upd_same] at f2
        cases f2
      refine ⟨p1, p2, _, _, rfl, rfl, (by rw [upd_ne n12]; exact upd_same), upd_same, (by show 13 ≤ sizeLine; decide), fun p3 f3 => ?_⟩
      have e1 : Ex H (upd (upd (upd H p1 (.lst [.int 2147483629, .int 2147483587, .int 2147483579, .int 2147483563, .int 2147483549, .int 2147483543, .int 2147483497])) p2 (.lst [.int 2147483489, .int 2147483477, .int 2147483423, .int 2147483399, .int 2147483353, .int 2147483323])) p3 (.lst ([.int 2147483629, .int 2147483587, .int 2147483579, .int 2147483563, .int 2147483549, .int 2147483543, .int 2147483497] ++ [.int 2147483489, .int 2147483477, .int 2147483423, .int 2147483399, .int 2147483353, .int 2147483323]))) :=
        ((Ex.new f1).trans (Ex.new f2)).trans (Ex.new f3)
      have hp : SqL K (upd (upd (upd H p1 (.lst [.int 2147483629, .int 2147483587, .int 2147483579, .int 2147483563, .int 2147483549, .int 2147483543, .int 2147483497])) p2 (.lst [.int 2147483489, .int 2147483477, .int 2147483423, .int 2147483399, .int 2147483353, .int 2147483323])) p3 (.lst ([.int 2147483629, .int 2147483587, .int 2147483579, .int 2147483563, .int 2147483549, .int 2147483543, .int 2147483497] ++ [.int 2147483489, .int 2147483477, .int 2147483423, .int 2147483399, .int 2147483353, .int 2147483323]))) p3 (primes.map V.int) := SqL.of upd_same
      -- mixed
      have a0 : 0 ≤ c % 1000000007 := Int.emod_nonneg _ (by decide)
      have a1 : c % 1000000007 < 1000000007 := Int.emod_lt_of_pos _ (by decide)
      generalize hc : c % 1000000007 = m at a0 a1
      have b0 : 0 ≤ m * (2 * t + 69069) := Int.mul_nonneg a0 (by omega)
      have b1 : m * (2 * t + 69069) ≤ 1000000007 * 71069 := Int.le_trans (Int.mul_le_mul_of_nonneg_right (by omega : m ≤ 1000000007) (by omega)) (Int.mul_le_mul_of_nonneg_left (by omega) (by decide))
      refine ⟨.int c, rfl, .inl ⟨c, rfl, c, 1000000007, rfl, rfl, (by decide : (0 : Int) < 1000000007), _, rfl, 2, t, rfl, rfl, mulW (a := 64) (b := 64) (b64 (by decide) (by decide)) (b64 h0 (by omega)) (by decide), 2 * t, 69069, rfl, rfl, c % 1000000007, 2 * t + 69069, rfl, rfl, (by rw [hc]; exact mulW (a := 64) (b := 64) (b64 a0 (by omega)) (b64 (by omega) (by omega)) (by decide)), ?_⟩⟩
      rw [hc]
      refine ⟨_, rfl, t, 40503, rfl, rfl, mulW (a := 64) (b := 64) (b64 h0 (by omega)) (b64 (by decide) (by decide)) (by decide), m * (2 * t + 69069), t * 40503, rfl, rfl, m * (2 * t + 69069) + t * 40503, 977, rfl, rfl, ?_⟩
      have m0 : 0 ≤ m * (2 * t + 69069) + t * 40503 + 977 := by omega
      have m1 : m * (2 * t + 69069) + t * 40503 + 977 < 18446744073709551616 := by omega
      -- one
      refine ⟨_, rfl, m * (2 * t + 69069) + t * 40503 + 977, 3, rfl, rfl, ⟨by decide, by decide, b64 m0 m1⟩, .inl ⟨_, rfl, _, rfl, _, rfl, .inl ⟨t, rfl, t, 13, rfl, rfl, (by decide : (0 : Int) < 13), ?_⟩⟩⟩
      obtain ⟨x1, g1, q1, r1⟩ := prime_at (i := t % 13) (Int.emod_nonneg _ (by decide)) (Int.emod_lt_of_pos _ (by decide))
      refine ⟨p3, _, t % 13, .int x1, rfl, rfl, hp, g1, _, x1, rfl, rfl, q1, ?_⟩
      have o0 : 0 ≤ (m * (2 * t + 69069) + t * 40503 + 977) ^ (3 : Int).toNat % x1 := Int.emod_nonneg _ (by omega)
      have o1 : (m * (2 * t + 69069) + t * 40503 + 977) ^ (3 : Int).toNat % x1 < 2147483648 := Int.lt_trans (Int.emod_lt_of_pos _ q1) r1
      dsimp only
      generalize (m * (2 * t + 69069) + t * 40503 + 977) ^ (3 : Int).toNat % x1 = o at o0 o1 ⊢
      -- rest
      refine ⟨.int c, rfl, .inl ⟨c, rfl, c, 65537, rfl, rfl, (by decide : (0 : Int) < 65537), c % 65537, 5, rfl, rfl, ?_⟩⟩
      have s0 : 0 ≤ c % 65537 := Int.emod_nonneg _ (by decide)
      have s1 : c % 65537 < 65537 := Int.emod_lt_of_pos _ (by decide)
      dsimp only
      generalize c % 65537 = s2 at s0 s1 ⊢
      -- two
      have w0 : 0 ≤ o * (t + 3) := Int.mul_nonneg o0 (by omega)
      have w1 : o * (t + 3) ≤ 2147483648 * 1003 := Int.le_trans (Int.mul_le_mul_of_nonneg_right (by omega : o ≤ 2147483648) (by omega)) (Int.mul_le_mul_of_nonneg_left (by omega) (by decide))
      refine ⟨.int o, rfl, .int t, rfl, t, 3, rfl, rfl, o, t + 3, rfl, rfl, mulW (a := 64) (b := 64) (b64 o0 (by omega)) (b64 (by omega) (by omega)) (by decide), .int (s2 + 5), rfl, o * (t + 3), s2 + 5, rfl, rfl, o * (t + 3) + (s2 + 5), 5, rfl, rfl, ⟨by decide, by decide, b64 (by omega) (by omega)⟩, .inl ⟨_, rfl, _, rfl, .int t, rfl, t, 5, rfl, rfl, .inl ⟨t + 5, rfl, t + 5, 13, rfl, rfl, (by decide : (0 : Int) < 13), ?_⟩⟩⟩
      obtain ⟨x2, g2, q2, r2⟩ := prime_at (i := (t + 5) % 13) (Int.emod_nonneg _ (by decide)) (Int.emod_lt_of_pos _ (by decide))
      refine ⟨p3, _, (t + 5) % 13, .int x2, rfl, rfl, hp, g2, _, x2, rfl, rfl, q2, ?_⟩
      have u0 : 0 ≤ (o * (t + 3) + (s2 + 5)) ^ (5 : Int).toNat % x2 := Int.emod_nonneg _ (by omega)
      have u1 : (o * (t + 3) + (s2 + 5)) ^ (5 : Int).toNat % x2 < 2147483648 := Int.lt_trans (Int.emod_lt_of_pos _ q2) r2
      dsimp only
      generalize (o * (t + 3) + (s2 + 5)) ^ (5 : Int).toNat % x2 = y at u0 u1 ⊢
      -- three
      have z0 : 0 ≤ o % 1009 := Int.emod_nonneg _ (by decide)
      have z1 : o % 1009 < 1009 := Int.emod_lt_of_pos _ (by decide)
      refine ⟨.int y, rfl, .int o, rfl, .inl ⟨o, rfl, o, 1009, rfl, rfl, (by decide : (0 : Int) < 1009), y, o % 1009, rfl, rfl, .int t, rfl, y + o % 1009, t, rfl, rfl, y + o % 1009 + t, 3, rfl, rfl, ⟨by decide, by decide, b64 (by omega) (by omega)⟩, .inl ⟨_, rfl, _, rfl, .int t, rfl, t, 7, rfl, rfl, .inl ⟨t + 7, rfl, t + 7, 13, rfl, rfl, (by decide : (0 : Int) < 13), ?_⟩⟩⟩⟩
      obtain ⟨x3, g3, q3, r3⟩ := prime_at (i := (t + 7) % 13) (Int.emod_nonneg _ (by decide)) (Int.emod_lt_of_pos _ (by decide))
      refine ⟨p3, _, (t + 7) % 13, .int x3, rfl, rfl, hp, g3, _, x3, rfl, rfl, q3, ?_⟩
      have v0 : 0 ≤ (y + o % 1009 + t) ^ (3 : Int).toNat % x3 := Int.emod_nonneg _ (by omega)
      dsimp only
      generalize (y + o % 1009 + t) ^ (3 : Int).toNat % x3 = y3 at v0 ⊢
      -- return
      refine ⟨.int o, rfl, o, 2147483647, rfl, rfl, mulW (a := 64) (b := 64) (b64 o0 (by omega)) (b64 (by decide) (by decide)) (by decide), .int y, rfl, o * 2147483647, y, rfl, rfl, o * 2147483647 + y, 2147483647, rfl, rfl, mulW (a := 64) (b := 64) (b64 (by omega) (by omega)) (b64 (by decide) (by decide)) (by decide), .int y3, rfl, _, y3, rfl, rfl, ?_⟩
      exact k _ _ (by omega) e1
def spTake (K : PySem.W.Frag) : Sp := fun vs H Q _ => ∃ (p a : Addr) (m : Int) (N : Nat), vs = [.ref p, .int m] ∧ Pen H p a N ∧ 0 < m ∧ m < 1073741824 ∧ N ≤ 990 ∧ ∀ r H', 0 ≤ r → r < m → ExB p H H' → Pen H' p a (N + 1) → Q (.int r) H'
theorem ok__law_take (T : Txt K mg) : FnOk P w K mg base CX0 2 T.d__law_take.a T.d__law_take.fd ["_law_pen", "_law_many"] (spTake K) := by
  refine T.d__law_take.F.ok sc__law_take (fun vs H Q E h => ?_) (fun cdv A outer s H vs Q E hr h => ?_)
  · obtain ⟨p, a, m, N, rfl, _⟩ := h
    rfl
  · obtain ⟨p, a, m, N, rfl, ⟨cs, t, v, hp, ha, hne, t0, t1, v0, hlen⟩, m0, m1, hN, k⟩ := h
    refine ⟨_, (pss_cons (ps_if (pt_cmpR op_lt (pe_ix ix_list (pv 0) pe_int (fun _ _ => rfl)) (pv 1) (nomark _)) (pss_cons (ps_set (i := 2) sc__law_take.nd rfl (Or.inl rfl) (pe_ix ix_list (pv 0) pe_int (fun _ _ => rfl)))
      (pss_cons (ps_set (i := 3) sc__law_take.nd rfl (Or.inl rfl) pe_int)
      (pss_cons (ps_if (pt_cmpR op_lt (pv 2) (pe_callB call_len_seq (by rfl) T.n_len (by decide +kernel) (pa_cons (pe_ix ix_list (pv 0) pe_int (fun _ _ => rfl)) pa_nil)) (nomark _)) (pss_one (ps_set (i := 3) sc__law_take.nd rfl (Or.inl rfl) (pe_ix ix_list (pe_ix ix_list (pv 0) pe_int (fun _ _ => rfl)) (pv 2) (fun _ _ => rfl)))) (pss_one (ps_if (pt_cmpR op_gt (pe_callB call_len_seq (by rfl) T.n_len (by decide +kernel) (pa_cons (pe_ix ix_list (pv 0) pe_int (fun _ _ => rfl)) pa_nil)) pe_int (nomark _)) (pss_one (ps_set (i := 3) sc__law_take.nd rfl (Or.inl rfl) (pe_op op_mod (pe_callTy call_int1 (by rfl) T.n_int (by decide +kernel) (pa_cons (pe_ix ix_list (pe_ix ix_list (pv 0) pe_int (fun _ _ => rfl)) (pe_op op_mod (pe_callTy call_int1 (by rfl) T.n_int (by decide +kernel) (pa_cons (pe_op op_add (pe_op op_mulW (pv 2) pe_int) pe_int) pa_nil)) (pe_callB call_len_seq (by rfl) T.n_len (by decide +kernel) (pa_cons (pe_ix ix_list (pv 0) pe_int (fun _ _ => rfl)) pa_nil))) (fun _ _ => rfl)) pa_nil)) (pe_op op_add (pe_op op_pow pe_int pe_int) (pv 2))))) pss_nil)))
      (pss_cons (ps_asg (pe_op op_add (pv 2) pe_int) (pg_sub (pv 0) pe_int set_list))
      (pss_one (ps_asg (pe_call (ok__law_spread T) (hr.mono (by decide)) (by rfl) T.d__law_spread.g T.d__law_spread.F.kp T.d__law_spread.b .nil pass0 (pa_cons (pv 3) (pa_cons (pv 2) pa_nil))) (pg_sub (pv 0) pe_int set_list))))))) pss_nil)
      (pss_cons (ps_set (i := 4) sc__law_take.nd rfl (Or.inl rfl) (pe_op op_mod (pe_callTy call_int1 (by rfl) T.n_int (by decide +kernel) (pa_cons (pe_ix ix_list (pv 0) pe_int (fun _ _ => rfl)) pa_nil)) (pv 1)))
      (pss_cons (ps_asg (pe_op op_fdivN (pe_ix ix_list (pv 0) pe_int (fun _ _ => rfl)) (pv 1)) (pg_sub (pv 0) pe_int set_list))
      (pss_one (ps_ret (pv 4)))))), ?_⟩
    have hP : ∀ {H : Hp}, H p = some (.lst [.ref a, .int t, .int v]) → SqL K H p [.ref a, .int t, .int v] := fun h => SqL.of h
    -- behind the if: the pen holds some rest
    refine s_join (fun σ H' => ∃ s2 s3 t' v', σ = [some (.ref p), some (.int m), s2, s3, none] ∧ H' p = some (.lst [.ref a, .int t', .int v']) ∧ ExB p H H' ∧ 0 ≤ t' ∧ t' ≤ N + 1 ∧ 0 ≤ v') (fun NX hNX => ?_) ?_
    · refine ⟨.ref p, rfl, p, _, 2, .int v, rfl, rfl, hP hp, rfl, .int m, rfl, v, m, rfl, rfl, _, rfl, ite2 (fun c => ?_) (fun c => ?_)⟩
      · refine ⟨.ref p, rfl, p, _, 1, .int t, rfl, rfl, hP hp, rfl, ?_⟩
        -- cell
        show tSeq (tAsg (tC (.int 0)) (gName 3)) _ _ _ _
        refine n_seq (n_c ?_)
        dsimp only
        refine s_join (fun σ H'' => ∃ c : Int, σ = [some (.ref p), some (.int m), some (.int t), some (.int c), none] ∧ H'' = H) (fun NX2 h2 => ?_) ?_
        · refine ⟨.int t, rfl, .ref p, rfl, p, _, 0, .ref a, rfl, rfl, hP hp, rfl, a, _, rfl, .inl (SqL.of ha), t, _, rfl, rfl, _, rfl, ite2 (fun d => ?_) (fun d => ?_)⟩
          · have d' : t < (cs.map V.int).length := of_decide_eq_true d
            rw [List.length_map] at d'
            obtain ⟨x, hx⟩ := atI_map (ms := cs) t0 d'
            exact ⟨.ref p, rfl, p, _, 0, .ref a, rfl, rfl, hP hp, rfl, .int t, rfl, a, _, t, .int x, rfl, rfl, SqL.of ha, hx, h2 _ _ ⟨x, rfl, rfl⟩⟩
          · refine ⟨.ref p, rfl, p, _, 0, .ref a, rfl, rfl, hP hp, rfl, a, _, rfl, .inl (SqL.of ha), _, 0, rfl, rfl, _, rfl, ite2 (fun f => ?_) (fun f => ?_)⟩
            · have f' : 0 < ((cs.map V.int).length : Int) := of_decide_eq_true f
              have f2 := f'
              rw [List.length_map] at f2
              obtain ⟨x, hx⟩ := atI_map (ms := cs) (i := (t * 5 + 3) % (cs.length : Int)) (Int.emod_nonneg _ (by omega)) (Int.emod_lt_of_pos _ f2)
              refine ⟨.ref p, rfl, p, _, 0, .ref a, rfl, rfl, hP hp, rfl, .int t, rfl, t, 5, rfl, rfl, mulW (a := 64) (b := 64) (b64 t0 (by omega)) (b64 (by decide) (by decide)) (by decide), t * 5, 3, rfl, rfl, .inl ⟨t * 5 + 3, rfl, .ref p, rfl, p, _, 0, .ref a, rfl, rfl, hP hp, rfl, a, _, rfl, .inl (SqL.of ha), _, _, rfl, rfl, f', ?_⟩⟩
              rw [List.length_map]
              refine ⟨a, _, (t * 5 + 3) % (cs.length : Int), .int x, rfl, rfl, SqL.of ha, hx, .inl ⟨x, rfl, 10, 17, rfl, rfl, ⟨by decide, by decide, by decide⟩, .int t, rfl, _, t, rfl, rfl, x, _, rfl, rfl, ?_, h2 _ _ ⟨_, rfl, rfl⟩⟩⟩
              have e2 : (10 : Int) ^ (17 : Int).toNat = 100000000000000000 := by decide
              show (0 : Int) < (10 : Int) ^ (17 : Int).toNat + t
              omega
            · exact h2 _ _ ⟨0, rfl, rfl⟩
        rintro σ H'' ⟨c1, rfl, rfl⟩
        -- pen[1] = at + 1
        refine ⟨.int t, rfl, t, 1, rfl, rfl, .ref p, rfl, p, _, 1, 1, rfl, rfl, hp, rfl, ?_⟩
        -- pen[2] = spread(cell, at)
        refine ⟨.int c1, rfl, .int t, rfl, c1, t, rfl, t0, by omega, fun v' H3 w0 e3 => ?_⟩
        refine ⟨.ref p, rfl, p, [.ref a, .int (t + 1), .int v], 2, 2, rfl, rfl, e3 _ _ upd_same, rfl, ?_⟩
        exact hNX _ _ ⟨_, _, t + 1, v', rfl, upd_same, ((ExB.upd (ExB.refl p H'')).trans (Ex.b e3)).upd, by omega, by omega, w0⟩
      · exact hNX _ _ ⟨_, _, t, v, rfl, hp, ExB.refl p H, t0, by omega, v0⟩
    · rintro σ H' ⟨s2, s3, t', v', rfl, hp', eb, a0, a1, b0⟩
      have hS : SqL K H' p [.ref a, .int t', .int v'] := SqL.of hp'
      refine ⟨.ref p, rfl, p, _, 2, .int v', rfl, rfl, hS, rfl, .inl ⟨v', rfl, .int m, rfl, v', m, rfl, rfl, m0, ?_⟩⟩
      refine ⟨.ref p, rfl, p, _, 2, .int v', rfl, rfl, hS, rfl, .int m, rfl, v', m, rfl, rfl, ⟨by omega, by omega⟩, .ref p, rfl, p, _, 2, 2, rfl, rfl, hp', rfl, ?_⟩
      refine ⟨_, rfl, k _ _ (Int.emod_nonneg _ (by omega)) (Int.emod_lt_of_pos _ m0) eb.upd ⟨cs, t', _, upd_same, ?_, hne, a0, by omega, ?_, hlen⟩⟩
      · rw [upd_ne hne]
        exact eb _ _ hne ha
      · rw [Int.fdiv_eq_ediv_of_nonneg v' (by omega)]
        exact Int.ediv_nonneg b0 (by omega)
def spAnew : Sp := fun vs H Q _ => ∃ (p a : Addr) (N : Nat), vs = [.ref p] ∧ Pen H p a N ∧ ∀ H', ExB p H H' → Pen H' p a N → Q (.ref p) H'
theorem ok__law_anew (T : Txt K mg) : FnOk P w K mg base CX0 1 T.d__law_anew.a T.d__law_anew.fd ["_law_pen"] spAnew := by
  refine T.d__law_anew.F.ok sc__law_anew (fun vs H Q E h => ?_) (fun cdv A outer s H vs Q E hr h => ?_)
  · obtain ⟨p, a, N, rfl, _⟩ := h
    rfl
  · obtain ⟨p, a, N, rfl, ⟨cs, t, v, hp, ha, hne, t0, t1, v0, hlen⟩, k⟩ := h
    refine ⟨_, (pss_cons (ps_asg pe_int (pg_sub (pv 0) pe_int set_list))
      (pss_one (ps_ret (pv 0)))), ?_⟩
    refine ⟨.ref p, rfl, p, _, 2, 2, rfl, rfl, hp, rfl, ?_⟩
    exact ⟨_, rfl, k _ (ExB.upd (ExB.refl p H)) ⟨cs, t, 0, upd_same, by rw [upd_ne hne]; exact ha, hne, t0, t1, by omega, hlen⟩⟩
def spOne (K : PySem.W.Frag) : Sp := fun vs H Q _ => ∃ (p a s : Addr) (xs : List V) (N : Nat), vs = [.ref p, .ref s] ∧ Pen H p a N ∧ H s = some (.lst xs) ∧ s ≠ p ∧ 0 < xs.length ∧ xs.length < 1073741824 ∧ N ≤ 990 ∧ ∀ (x : V) (H' : Hp), x ∈ xs → ExB p H H' → Pen H' p a (N + 1) → Q x H'
theorem ok__law_one (T : Txt K mg) : FnOk P w K mg base CX0 3 T.d__law_one.a T.d__law_one.fd ["_law_pen", "_law_some"] (spOne K) := by
  refine T.d__law_one.F.ok sc__law_one (fun vs H Q E h => ?_) (fun cdv A outer s H vs Q E hr h => ?_)
  · obtain ⟨p, a, s, xs, N, rfl, _⟩ := h
    rfl
  · obtain ⟨p, a, s, xs, N, rfl, hp, hs, hsp, l0, l1, hN, k⟩ := h
    refine ⟨_, (pss_one (ps_ret (pe_ix ix_list (pv 1) (pe_call (ok__law_take T) (hr.mono (by decide)) (by rfl) T.d__law_take.g T.d__law_take.F.kp T.d__law_take.b .nil pass0 (pa_cons (pv 0) (pa_cons (pe_callB call_len_seq (by rfl) T.n_len (by decide +kernel) (pa_cons (pv 1) pa_nil)) pa_nil))) (fun _ _ => rfl)))), ?_⟩
    refine ⟨_, rfl, _, rfl, .ref s, rfl, s, xs, rfl, .inl (SqL.of hs), p, a, _, N, rfl, hp, by omega, by omega, hN, fun r H' r0 r1 eb hp' => ?_⟩
    have hk : r.toNat < xs.length := by omega
    have hx := atI_nat (List.getElem?_eq_getElem hk)
    rw [show ((r.toNat : Nat) : Int) = r by omega] at hx
    exact ⟨s, xs, r, _, rfl, rfl, SqL.of (eb _ _ hsp hs), hx, k _ H' (List.getElem_mem hk) eb hp'⟩
theorem cut_map (ms : List Int) (lo hi : Option Int) : cutV (ms.map V.int) lo hi = ((ms.drop (HT.sIx ms.length 0 lo)).take (HT.sIx ms.length ms.length hi - HT.sIx ms.length 0 lo)).map V.int := by
  unfold cutV
  rw [List.length_map, ← List.map_drop, ← List.map_take]
def spOpen (K : PySem.W.Frag) : Sp := fun vs H Q _ => ∃ (a : Addr) (ns : List Int), vs = [.ref a] ∧ SqL K H a (ns.map V.int) ∧ ns.length ≤ 63 ∧ ∀ p c H', Ex H H' → Pen H' p c 0 → H p = none → Q (.ref p) H'
theorem ok__law_open (T : Txt K mg) : FnOk P w K mg base CX0 1 T.d__law_open.a T.d__law_open.fd ["_law_script"] (spOpen K) := by
  refine T.d__law_open.F.ok sc__law_open (fun vs H Q E h => ?_) (fun cdv A outer s H vs Q E hr h => ?_)
  · obtain ⟨a, ns, rfl, _⟩ := h
    rfl
  · obtain ⟨a, ns, rfl, hS, hl, k⟩ := h
    refine ⟨_, (pss_cons (ps_set (i := 1) sc__law_open.nd rfl (Or.inl rfl) (pe_callTy call_list_of (by rfl) T.n_list (by decide +kernel) (pa_cons (pe_slice sl_list (pv 0) po_none (po_some pe_int)) pa_nil)))
      (pss_cons (ps_for PassesOwn.never rfl (pi_enum (by rfl) T.n_enumerate (pa_cons (pe_slice sl_list (pv 0) (po_some pe_int) (po_some pe_int)) pa_nil)) (pg_tup (by rfl) (pgs_cons (pg_name (i := 2) sc__law_open.nd rfl (Or.inl rfl)) (pgs_cons (pg_name (i := 3) sc__law_open.nd rfl (Or.inl rfl)) pgs_nil))) (pss_one (ps_asg (pe_op op_add (pe_ix ix_list (pv 1) (pe_op op_mod (pe_callTy call_int1 (by rfl) T.n_int (by decide +kernel) (pa_cons (pv 2) pa_nil)) pe_int) (fun _ _ => rfl)) (pv 3)) (pg_sub (pv 1) (pe_op op_mod (pe_callTy call_int1 (by rfl) T.n_int (by decide +kernel) (pa_cons (pv 2) pa_nil)) pe_int) set_list))))
      (pss_one (ps_ret (pe_lst (pa_cons (pv 1) (pa_cons pe_int (pa_cons pe_int pa_nil)))))))), ?_⟩
    -- cells = list(script[:12])
    have e0 : ∀ n : Nat, HT.sIx n 0 none = 0 := fun n => HT.sIx_none n 0
    have e12 : HT.sIx ns.length ns.length (some 12) = min 12 ns.length := HT.sIx_nat ns.length ns.length 12
    have e12' : HT.sIx ns.length 0 (some 12) = min 12 ns.length := HT.sIx_nat ns.length 0 12
    generalize hms : (ns.drop (HT.sIx ns.length 0 (some 12))).take (HT.sIx ns.length ns.length (some 63) - HT.sIx ns.length 0 (some 12)) = ms
    have cm : cutV (ns.map V.int) (some 12) (some 63) = ms.map V.int := by
      rw [cut_map, hms]
    have cc : cutV (ns.map V.int) none (some 12) = (ns.take (min 12 ns.length)).map V.int := by
      rw [cut_map, e0, e12, List.drop_zero, Nat.sub_zero]
    have hml : 0 < ms.length → 12 ≤ ns.length := fun z => by
      rw [← hms, List.length_take, List.length_drop, e12'] at z
      omega
    refine ⟨.ref a, rfl, 12, rfl, a, _, rfl, hS, fun p1 f1 => ?_⟩
    rw [cc]
    have x1 := Ex.new (o := .lst ((ns.take (min 12 ns.length)).map V.int)) f1
    refine ⟨p1, _, rfl, .inl (SqL.of upd_same), fun p2 f2 => ?_⟩
    have x2 := Ex.new (o := .lst ((ns.take (min 12 ns.length)).map V.int)) f2
    have n2 : H p2 = none := fresh_back x1 f2
    -- for k, cell in enumerate(script[12:63])
    refine ⟨.ref a, rfl, 12, rfl, 63, rfl, a, _, rfl, ex_l (x1.trans x2) hS, fun p3 f3 => ?_⟩
    rw [cm]
    have x3 := Ex.new (o := .lst (ms.map V.int)) f3
    have n32 : p2 ≠ p3 := fun z => by
      rw [← z, upd_same] at f3
      cases f3
    have n3 : H p3 = none := fresh_back (x1.trans x2) f3
    refine ⟨p3, _, rfl, SqL.of upd_same, ?_⟩
    refine ⟨fun i m σ H' => m = ms.length - i ∧ i ≤ ms.length ∧ ∃ (s2 s3 : Option V) (cs : List Int), σ = [some (.ref a), some (.ref p2), s2, s3] ∧ Ex H H' ∧ H' p3 = some (.lst (ms.map V.int)) ∧ H' p2 = some (.lst (cs.map V.int)) ∧ cs.length = min 12 ns.length,
      ⟨ms.length, by omega, Nat.zero_le _, none, none, ns.take (min 12 ns.length), rfl, (x1.trans x2).trans x3, upd_same, by rw [upd_ne n32]; exact upd_same, by rw [List.length_take]; omega⟩, ?_⟩
    rintro i m σ H' ⟨rfl, hi, s2, s3, cs, rfl, ex, h3, h2, hcl⟩
    by_cases hlt : i < ms.length
    · refine .inr ⟨⟨_, V.int ms[i], SqL.of h3, by rw [List.getElem?_map, List.getElem?_eq_getElem hlt]; rfl⟩, fun σ' H'' => ∃ (s2 s3 : Option V) (cs : List Int), σ' = [some (.ref a), some (.ref p2), s2, s3] ∧ Ex H H'' ∧ H'' p3 = some (.lst (ms.map V.int)) ∧ H'' p2 = some (.lst (cs.map V.int)) ∧ cs.length = min 12 ns.length, fun σ' H'' q => ⟨ms.length - (i + 1), by omega, rfl, hlt, q⟩, fun x H'' y => ?_⟩
      obtain ⟨t, z, rfl, ft, rfl, hz⟩ := y
      have ez : z = V.int ms[i] := by
        have := hz _ (SqL.of h3)
        rw [List.getElem?_map, List.getElem?_eq_getElem hlt] at this
        exact (Option.some.inj this).symm
      subst ez
      have nt2 : p2 ≠ t := ne_of_none h2 ft
      have nt3 : p3 ≠ t := ne_of_none h3 ft
      have x4 := Ex.new (o := .tup [.int (i : Nat), .int ms[i]]) ft
      have g2 := x4 _ _ h2
      have hc12 : cs.length = 12 := by
        have := hml (by omega)
        omega
      have z0 : 0 ≤ (i : Int) % 12 := Int.emod_nonneg _ (by decide)
      have z1 : (i : Int) % 12 < 12 := Int.emod_lt_of_pos _ (by decide)
      obtain ⟨c, hc⟩ := atI_map (ms := cs) z0 (by omega)
      refine ⟨t, _, rfl, SqT.of upd_same, rfl, _, _, rfl, _, _, rfl, rfl, ?_⟩
      -- cells[k % 12] = cells[k % 12] + cell
      refine ⟨_, rfl, _, rfl, .inl ⟨_, rfl, _, 12, rfl, rfl, (by decide : (0 : Int) < 12), p2, _, (i : Int) % 12, .int c, rfl, rfl, SqL.of g2, hc, _, rfl, c, ms[i], rfl, rfl, ?_⟩⟩
      refine ⟨_, rfl, _, rfl, .inl ⟨_, rfl, _, 12, rfl, rfl, (by decide : (0 : Int) < 12), p2, _, (i : Int) % 12, ((i : Int) % 12).toNat, rfl, rfl, g2, ?_, ?_⟩⟩
      · unfold ixN
        rw [if_pos z0, if_pos (by rw [List.length_map]; omega)]
      · refine ⟨_, _, cs.set ((i : Int) % 12).toNat (c + ms[i]), rfl, ?_, ?_, ?_, ?_⟩
        · intro b o hb
          rw [upd_ne (ne_of_none hb n2)]
          exact x4 _ _ (ex _ _ hb)
        · rw [upd_ne n32.symm]
          exact x4 _ _ h3
        · rw [upd_same, List.map_set]
        · rw [List.length_set]
          exact hcl
    · refine .inl ⟨⟨_, SqL.of h3, by rw [List.length_map]; omega⟩, ?_⟩
      -- return [cells, 0, 0]
      refine ⟨_, rfl, by show 3 ≤ sizeLine; decide, fun p4 f4 => ?_⟩
      have n4 : p2 ≠ p4 := ne_of_none h2 f4
      exact k p4 p2 _ (ex.trans (Ex.new f4)) ⟨cs, 0, 0, upd_same, by rw [upd_ne n4]; exact h2, n4, by omega, by omega, by omega, by omega⟩ (fresh_back ex f4)
end
/-! ### the law's own gcd, its lowest terms -/
theorem nat_abs_if (n : Int) : (if n < 0 then -n else n) = ((n.natAbs : Nat) : Int) := by
  by_cases h : n < 0
  · rw [if_pos h]; omega
  · rw [if_neg h]; omega
section
variable {P : Program} {w : World} {K : PySem.W.Frag} {mg : Str → Option Value} {base : Heap}
def spGcd : Sp := fun vs H Q _ => ∃ n d : Int, vs = [.int n, .int d] ∧ n.natAbs * d.natAbs < 2 ^ 3990 ∧ Q (.int ((Nat.gcd n.natAbs d.natAbs : Nat) : Int)) H
theorem ok__law_common (T : Txt K mg) : FnOk P w K mg base CX0 1 T.d__law_common.a T.d__law_common.fd ["_law_one_here", "_law_other"] spGcd := by
  refine T.d__law_common.F.ok sc__law_common (fun vs H Q E h => ?_) (fun cdv A outer s H vs Q E hr h => ?_)
  · obtain ⟨n, d, rfl, _⟩ := h
    rfl
  · obtain ⟨n, d, rfl, hb, k⟩ := h
    refine ⟨_, (pss_cons (ps_par (i := 0) (j := 1) (by rfl) sc__law_common.nd rfl rfl (by decide) rfl rfl (pa_cons (pe_callB call_abs (by rfl) T.n_abs (by decide +kernel) (pa_cons (pv 0) pa_nil)) (pa_cons (pe_callB call_abs (by rfl) T.n_abs (by decide +kernel) (pa_cons (pv 1) pa_nil)) pa_nil)) (by rfl))
      (pss_cons (ps_for PassesOwn.never rfl (pi_range1 (by rfl) T.n_range (pa_cons pe_int pa_nil)) (pg_name (i := 2) sc__law_common.nd rfl (Or.inl rfl)) (pss_cons (ps_if (pt_cmpR op_eq (pv 1) pe_int (nomark _)) (pss_one (ps_ret (pv 0))) pss_nil)
      (pss_one (ps_par (i := 0) (j := 1) (by rfl) sc__law_common.nd rfl rfl (by decide) rfl rfl (pa_cons (pv 1) (pa_cons (pe_op op_mod (pe_callTy call_int1 (by rfl) T.n_int (by decide +kernel) (pa_cons (pv 0) pa_nil)) (pv 1)) pa_nil)) (by rfl)))))
      (pss_one (ps_ret pe_int)))), ?_⟩
    refine ⟨_, rfl, n, rfl, _, rfl, d, rfl, _, _, rfl, ?_⟩
    rw [nat_abs_if, nat_abs_if]
    refine ⟨4000, rfl, by decide, by decide, ?_⟩
    show ∃ W : Nat → Nat → L2.St → Hp → Prop, _
    refine for_range (lo := 0) (n := 4000) (fun i σ H' => i ≤ 3999 ∧ H' = H ∧ ∃ (a b : Nat) (s2 : Option V), σ = [some (.int (a : Int)), some (.int (b : Int)), s2] ∧ Nat.gcd a b = Nat.gcd n.natAbs d.natAbs ∧ EucEnds (3999 - i) a b)
      ⟨by decide, rfl, n.natAbs, d.natAbs, none, rfl, rfl, .inr (.inr ⟨by decide, lt_pow_mono (by decide : 3990 ≤ 3999 - 0 - 2) hb⟩)⟩ ?_ ?_
    · rintro i σ H' hi ⟨h1, rfl, a, b, s2, rfl, hg, he⟩
      refine ⟨_, rfl, rfl, _, rfl, ite2 (fun c => ?_) (fun c => ?_)⟩
      · have c' : b = 0 := by
          have := V.int.inj (of_decide_eq_true c)
          omega
        subst c'
        have := gcd_end hg
        subst this
        exact ⟨_, rfl, k⟩
      · have c' : b ≠ 0 := fun z => c (decide_eq_true (by rw [z]; rfl))
        have h2 : i < 3999 := by
          by_cases h3 : i < 3999
          · exact h3
          · rw [show 3999 - i = 0 by omega] at he
            exact absurd he.zero c'
        refine ⟨_, rfl, _, rfl, .inl ⟨_, rfl, _, rfl, a, b, rfl, rfl, (by omega : (0 : Int) < (b : Int)), _, _, rfl, ?_⟩⟩
        refine ⟨h2, rfl, b, a % b, some (.int (0 + (i : Int))), ?_, gcd_step hg, ?_⟩
        · rw [Int.natCast_emod]
          rfl
        · rw [show 3999 - i = (3999 - (i + 1)) + 1 by omega] at he
          exact he.step c'
    · rintro σ H' ⟨h1, _⟩
      exact absurd h1 (by decide)
def spLowL (K : PySem.W.Frag) : Sp := fun vs H Q _ => ∃ (n d : Int) (b : Nat), vs = [.int n, .int d] ∧ d ≠ 0 ∧ n.natAbs < 2 ^ b ∧ d.natAbs < 2 ^ b ∧ b ≤ 1900 ∧ ∀ z H', Ex H H' → Fr K b (Rat.divInt n d) z H' → Q z H'
theorem ok__law_low (T : Txt K mg) : FnOk P w K mg base CX0 2 T.d__law_low.a T.d__law_low.fd ["_law_top", "_law_bottom"] (spLowL K) := by
  refine T.d__law_low.F.ok sc__law_low (fun vs H Q E h => ?_) (fun cdv A outer s H vs Q E hr h => ?_)
  · obtain ⟨n, d, b, rfl, _⟩ := h
    rfl
  · obtain ⟨n, d, b, rfl, hd, hn, hb, hl, k⟩ := h
    refine ⟨_, (pss_cons (ps_set (i := 2) sc__law_low.nd rfl (Or.inl rfl) (pe_call (ok__law_common T) (hr.mono (by decide)) (by rfl) T.d__law_common.g T.d__law_common.F.kp T.d__law_common.b .nil pass0 (pa_cons (pv 0) (pa_cons (pv 1) pa_nil))))
      (pss_cons (ps_set (i := 3) sc__law_low.nd rfl (Or.inl rfl) (pe_ifExp (pt_cmpR op_lt (pv 1) pe_int (nomark _)) (pe_un un_neg pe_int) pe_int))
      (pss_one (ps_ret (pe_tup (pa_cons (pe_op op_fdivZ (pe_op op_mulW (pv 3) (pv 0)) (pv 2)) (pa_cons (pe_op op_fdivZ (pe_op op_mulW (pv 3) (pv 1)) (pv 2)) pa_nil))))))), ?_⟩
    refine ⟨_, rfl, _, rfl, n, d, rfl, lt_pow_mono (by omega : b + b ≤ 3990) (lt_pow_mul hn hb), ?_⟩
    have hG : Nat.gcd n.natAbs d.natAbs ≤ d.natAbs := Nat.gcd_le_right _ (by omega)
    have hp := gcd_pos (n := n) hd
    have hz : ∀ i : Int, CDivZ i ((Nat.gcd n.natAbs d.natAbs : Nat) : Int) := fun _ => ⟨by omega, by
      have : ((Nat.gcd n.natAbs d.natAbs : Nat) : Int).natAbs = Nat.gcd n.natAbs d.natAbs := by omega
      rw [this]
      exact log_lt (Nat.lt_of_le_of_lt hG hb) (by omega : b ≤ 9000) (by decide)⟩
    have fd : ∀ i : Int, i.fdiv ((Nat.gcd n.natAbs d.natAbs : Nat) : Int) = i / ((Nat.gcd n.natAbs d.natAbs : Nat) : Int) := fun i => Int.fdiv_eq_ediv_of_nonneg i (by omega)
    have fin : ∀ s : Int, s = (if d < 0 then -1 else 1) → ∀ σ : L2.St, σ = [some (.int n), some (.int d), some (.int ((Nat.gcd n.natAbs d.natAbs : Nat) : Int)), some (.int s)] → ∀ D : Ends, (∀ z H', Ex H H' → Fr K b (Rat.divInt n d) z H' → D.rt z H') →
        tRet (tTup (tCons (tOp (rI CDivZ fun i j => .int (i.fdiv j)) (tOp (rI CMulW fun i j => .int (i * j)) (tVar 3) (tVar 0)) (tVar 2)) (tCons (tOp (rI CDivZ fun i j => .int (i.fdiv j)) (tOp (rI CMulW fun i j => .int (i * j)) (tVar 3) (tVar 1)) (tVar 2)) tNil))) D σ H := by
      rintro s hs σ rfl D kk
      have e := low_eq n d hd s hs
      have s64 : s.natAbs < 2 ^ 64 := by
        have : s.natAbs = 1 := by
          by_cases h : d < 0
          · rw [hs, if_pos h]; rfl
          · rw [hs, if_neg h]; rfl
        rw [this]
        decide
      exact s_retP (ep_tup (b := b) (ev_fdivZ (ev_mulW (ev_var rfl) (ev_var rfl) (mulW s64 hn (by omega))) (ev_var rfl) (hz _)) (ev_fdivZ (ev_mulW (ev_var rfl) (ev_var rfl) (mulW s64 hb (by omega))) (ev_var rfl) (hz _)) (by rw [fd]; exact e.1) (by rw [fd]; exact e.2) (bd_divInt hd hn hb)) fun z H1 e w => kk z H1 e w
    refine ⟨_, rfl, d, 0, rfl, rfl, _, rfl, ite2 (fun c => ?_) (fun c => ?_)⟩
    · have c' : d < 0 := of_decide_eq_true c
      refine ⟨1, rfl, ?_⟩
      exact fin (-1) (by rw [if_pos c']) _ rfl _ k
    · have c' : ¬ d < 0 := fun z => c (decide_eq_true z)
      exact fin 1 (by rw [if_neg c']) _ rfl _ k
end
section
variable {P : Program} {w : World} {K : PySem.W.Frag} {mg : Str → Option Value} {base : Heap}
theorem ok_lowest (T : Txt K mg) : FnOk P w K mg base CX0 1 T.d_lowest.a T.d_lowest.fd ["top", "bottom"] (spLow K) := by
  refine T.d_lowest.F.ok sc_lowest (fun vs H Q E h => ?_) (fun cdv A outer s H vs Q E hr h => ?_)
  · obtain ⟨n, d, b, rfl, _⟩ := h
    rfl
  · obtain ⟨n, d, b, rfl, hd, hn, hb, hl, k⟩ := h
    refine ⟨_, (pss_cons (ps_set (i := 2) sc_lowest.nd rfl (Or.inl rfl) (pe_callBfun cr_gcd (by rfl) T.n_gcd (pa_cons (pv 0) (pa_cons (pv 1) pa_nil))))
      (pss_cons (ps_if (pt_cmpR op_lt (pv 1) pe_int (nomark _)) (pss_one (ps_set (i := 2) sc_lowest.nd rfl (Or.inl rfl) (pe_un un_neg (pv 2)))) pss_nil)
      (pss_one (ps_ret (pe_tup (pa_cons (pe_op op_fdivZ (pv 0) (pv 2)) (pa_cons (pe_op op_fdivZ (pv 1) (pv 2)) pa_nil))))))), ?_⟩
    have e := lowest_eq n d hd
    have hG : Nat.gcd n.natAbs d.natAbs ≤ d.natAbs := Nat.gcd_le_right _ (by omega)
    have hp := gcd_pos (n := n) hd
    refine ⟨_, rfl, _, rfl, n, d, rfl, ?_⟩
    refine ⟨_, rfl, d, 0, rfl, rfl, _, rfl, ite2 (fun c => ?_) (fun c => ?_)⟩
    · have c' : d < 0 := of_decide_eq_true c
      rw [if_pos c'] at e
      refine ⟨_, rfl, _, rfl, ?_⟩
      have hz : ∀ i : Int, CDivZ i (-((Nat.gcd n.natAbs d.natAbs : Nat) : Int)) := fun _ => ⟨by omega, by
        have : (-((Nat.gcd n.natAbs d.natAbs : Nat) : Int)).natAbs = Nat.gcd n.natAbs d.natAbs := by omega
        rw [this]
        exact log_lt (Nat.lt_of_le_of_lt hG hb) (by omega : b ≤ 9000) (by decide)⟩
      exact s_retP (ep_tup (b := b) (ev_fdivZ (ev_var rfl) (ev_var rfl) (hz _)) (ev_fdivZ (ev_var rfl) (ev_var rfl) (hz _)) e.1 e.2 (bd_divInt hd hn hb)) fun z H1 e w => k z H1 e w
    · have c' : ¬ d < 0 := fun z => c (decide_eq_true z)
      rw [if_neg c'] at e
      have hz : ∀ i : Int, CDivZ i ((Nat.gcd n.natAbs d.natAbs : Nat) : Int) := fun _ => ⟨by omega, by
        have : ((Nat.gcd n.natAbs d.natAbs : Nat) : Int).natAbs = Nat.gcd n.natAbs d.natAbs := by omega
        rw [this]
        exact log_lt (Nat.lt_of_le_of_lt hG hb) (by omega : b ≤ 9000) (by decide)⟩
      exact s_retP (ep_tup (b := b) (ev_fdivZ (ev_var rfl) (ev_var rfl) (hz _)) (ev_fdivZ (ev_var rfl) (ev_var rfl) (hz _)) e.1 e.2 (bd_divInt hd hn hb)) fun z H1 e w => k z H1 e w
end
section
variable {P : Program} {w : World} {K : PySem.W.Frag} {mg : Str → Option Value} {base : Heap}
theorem ok_multiply (T : Txt K mg) : FnOk P w K mg base CX0 2 T.d_multiply.a T.d_multiply.fd ["one", "other"] (sp2 K (fun _ => True) fun q r => q * r) := by
  refine T.d_multiply.F.ok sc_multiply (fun vs H Q E h => ?_) (fun cdv A outer s H vs Q E hr h => ?_)
  · obtain ⟨u, v, b, c, q, r, rfl, _⟩ := h
    rfl
  · obtain ⟨u, v, b, c, q, r, rfl, f, g, hl, _, k⟩ := h
    refine ⟨_, (pss_one (ps_ret (pe_call (ok_lowest T) (hr.mono (by decide)) (by rfl) T.d_lowest.g T.d_lowest.F.kp T.d_lowest.b .nil pass0 (pa_cons (pe_op op_mulW (pe_ix ix_tup (pv 0) pe_int (fun _ _ => rfl)) (pe_ix ix_tup (pv 1) pe_int (fun _ _ => rfl))) (pa_cons (pe_op op_mulW (pe_ix ix_tup (pv 0) pe_int (fun _ _ => rfl)) (pe_ix ix_tup (pv 1) pe_int (fun _ _ => rfl))) pa_nil))))), ?_⟩
    have F := @ep_var K (start n_multiply [u, v]) H u b q 0 rfl f
    have G := @ep_var K (start n_multiply [u, v]) H v c r 1 rfl g
    have x := f.bd
    have y := g.bd
    exact s_retP (ep_Low (b := b + c + 1) (ev_mulW (ev_0 F) (ev_0 G) (mulW x.1 y.1 (by omega))) (ev_mulW (ev_1 F) (ev_1 G) (mulW (bd_den x) (bd_den y) (by omega)))
      (Int.mul_ne_zero (den_ne q) (den_ne r)) (lt_pow_mono (Nat.le_succ _) (bn_mul x.1 y.1)) (lt_pow_mono (Nat.le_succ _) (bn_mul (bd_den x) (bd_den y))) hl (mul_eq q r)) fun z H1 e w => k z H1 e w
end
/-! ### sums of many fractions -/
section
variable {P : Program} {w : World} {K : PySem.W.Frag} {mg : Str → Option Value} {base : Heap}
/-- a def by its body, its code object known -/
theorem okC {x qual : Str} {st : Stmt} {f c : Addr} {fd : FuncData} {N ps : List Str} {k : Nat} {sp : Sp} (F : Fun K x qual st f fd) (hc : fd.code = .ref c) (S : FnScope N ps (defScope st)) (len : ∀ vs H Q E, sp vs H Q E → vs.length = ps.length)
    (body : ∀ (A : Around) (outer : List Env) (s : Shared) (H : Hp) (vs : List V) (Q : VK) (E : XK), Room k (A.deeper (envOfC qual (defScope st) s.heap.objs.size f (.ref c))) → sp vs H Q E →
      ∃ t, PSs (cxOf CX0 P w K mg base N qual (defScope st) f (.ref c) A outer s H E).nox (defBody st) t ∧ t { nx := fun _ H' => Q .non H', rt := Q } (start N vs) H) : FnOk P w K mg base CX0 (k + 1) f fd ps sp := by
  obtain ⟨oc, od, kV, doc, pm, an, cdv, ct, osl, rfl, lk, hcd⟩ := F.ex
  obtain rfl : cdv = .ref c := hc
  apply fn_of lk hcd S len
  intro A outer s H vs Q E hr hsp
  obtain ⟨t, h, q⟩ := body A outer s H vs Q E hr hsp
  exact ⟨t, h.nox, q⟩
/-- a list of fractions; what comes is their sum; only the table at T may have grown -/
def spAll (K : PySem.W.Frag) (T : Addr) : Sp := fun vs H Q _ => ∃ (yl : Addr) (qs : Qs) (b : Nat), vs = [.ref yl] ∧ PrsAt K H yl (prs qs) ∧ (∀ p ∈ qs, Bd b p.2) ∧ b * qs.length + b + qs.length + 1 ≤ 3000 ∧ GxR.TabG H T ∧
  ∀ z H', ExB T H H' → GxR.TabG H' T → Fr K (b * qs.length + b + qs.length + 1) (sumQ qs) z H' → Q z H'
theorem ok_add_all (T : Txt K mg) (tb : GxR.TabB base mg T.c_add_all T.P_add_all) : FnOk P w K mg base CX0 2 T.d_add_all.a T.d_add_all.fd ["fractions"] (spAll K T.P_add_all) := by
  refine okC T.d_add_all.F T.h_add_all sc_add_all (fun vs H Q E h => ?_) (fun A outer s H vs Q E hr h => ?_)
  · obtain ⟨yl, qs, b, rfl, _⟩ := h
    rfl
  · obtain ⟨yl, qs, b, rfl, hL, hb, hl, hT, k⟩ := h
    refine ⟨_, (pss_cons (ps_set (i := 1) sc_add_all.nd rfl (Or.inr rfl) pe_int)
      (pss_cons (ps_for PassesOwn.never rfl (pi_list (pv 0)) (pg_tup (by rfl) (pgs_cons (pg_name (i := 2) sc_add_all.nd rfl (Or.inl rfl)) (pgs_cons (pg_name (i := 3) sc_add_all.nd rfl (Or.inl rfl)) pgs_nil))) (pss_one (ps_set (i := 1) sc_add_all.nd rfl (Or.inr rfl) (pe_op op_mulW (pe_op op_fdivZ (pv 1) (pe_callBfun cr_gcd (by rfl) T.n_gcd (pa_cons (pv 1) (pa_cons (pv 3) pa_nil)))) (pv 3)))))
      (pss_one (ps_ret (pe_call (ok_lowest T) (hr.mono (by decide)) (by rfl) T.d_lowest.g T.d_lowest.F.kp T.d_lowest.b .nil pass0 (pa_cons (pe_sumP (ic := 1) hr (by rfl) T.n_sum tb rfl ⟨rfl, rfl, by decide, rfl, rfl, rfl, rfl, by decide, by decide, fun _ => rfl⟩ rfl rfl (pv 0) (elt_cut ⟨rfl, rfl, by decide, rfl, rfl, rfl, rfl, by decide, by decide, fun _ => rfl⟩) (fun _ => rfl)) (pa_cons (pv 1) pa_nil))))))), ?_⟩
    have at_ : ∀ (i : Nat) (x : V), ((prs qs).map fun p => V.ref p.1)[i]? = some x → ∃ p : Addr × Rat, qs[i]? = some p ∧ x = .ref p.1 ∧ p ∈ qs := by
      intro i x hx
      unfold prs at hx
      rw [List.map_map, List.getElem?_map] at hx
      cases hq : qs[i]? with
      | none =>
        rw [hq] at hx
        cases hx
      | some p =>
        rw [hq] at hx
        cases hx
        exact ⟨p, rfl, rfl, List.mem_of_getElem? hq⟩
    have sq : ∀ p ∈ qs, SqT K H p.1 [.int p.2.num, .int (p.2.den : Int)] := fun p hp => hL.2 _ (List.mem_map.mpr ⟨p, hp, rfl⟩)
    have len : ((prs qs).map fun p => V.ref p.1).length = qs.length := by rw [List.length_map, prs, List.length_map]
    refine n_seq (n_c ?_)
    dsimp only
    refine n_seq ?_
    refine ⟨.ref yl, rfl, yl, rfl, ⟨_, hL.1⟩, ?_⟩
    refine for_list (K := K) (a := yl) (xs := (prs qs).map fun p => V.ref p.1) (fun i σ H' => H' = H ∧ ∃ (d : Int) (s2 s3 : Option V), σ = [some (.ref yl), some (.int d), s2, s3, none] ∧ 0 < d ∧ d.natAbs < 2 ^ (b * i + 1) ∧ ∀ (j : Nat) (p : Addr × Rat), j < i → qs[j]? = some p → (p.2.den : Int) ∣ d)
      ⟨rfl, 1, none, none, rfl, by decide, by simp, fun j p hj => absurd hj (by omega)⟩ (fun i σ H' _ ⟨e, _⟩ => by subst e; exact hL.1) ?_ ?_
    · rintro i x σ H' hx ⟨rfl, d, s2, s3, rfl, d0, dB, dD⟩
      obtain ⟨p, hp, rfl, hm⟩ := at_ i x hx
      have e0 := den_pos p.2
      have eB := bd_den (hb p hm)
      obtain ⟨l1, l2, l3, l4⟩ := lcm_step d0 e0
      have gp : 0 < Nat.gcd d.natAbs (p.2.den : Int).natAbs := gcd_pos (n := d) (d := (p.2.den : Int)) (by omega)
      have gl : Nat.gcd d.natAbs (p.2.den : Int).natAbs ≤ (p.2.den : Int).natAbs := Nat.gcd_le_right _ (by omega)
      have ib : b * i ≤ b * qs.length := Nat.mul_le_mul_left _ (Nat.le_of_lt (List.getElem?_eq_some_iff.mp hp).1)
      have hq1 : d.fdiv ((Nat.gcd d.natAbs (p.2.den : Int).natAbs : Nat) : Int) ≤ d ∧ 0 ≤ d.fdiv ((Nat.gcd d.natAbs (p.2.den : Int).natAbs : Nat) : Int) := by
        have h1 : ((Nat.gcd d.natAbs (p.2.den : Int).natAbs : Nat) : Int) ∣ d := Int.ofNat_dvd_left.mpr (Nat.gcd_dvd_left _ _)
        exact (fdiv_le (by omega) h1 d0).symm
      refine ⟨p.1, _, rfl, sq p hm, rfl, _, _, rfl, _, _, rfl, rfl, ?_⟩
      refine ⟨_, rfl, _, rfl, _, rfl, d, (p.2.den : Int), rfl, d, _, rfl, rfl, ⟨by omega, ?_⟩, _, rfl, _, _, rfl, rfl, ?_, ?_⟩
      · exact log_lt (show (((Nat.gcd d.natAbs (p.2.den : Int).natAbs : Nat) : Int)).natAbs < 2 ^ b by omega) (by omega : b ≤ 9000) (by decide)
      · exact mulW (a := b * i + 1) (b := b) (by omega) eB (by omega)
      · refine ⟨rfl, lcmN d (p.2.den : Int), _, _, rfl, l1, ?_, fun j q hj hq => ?_⟩
        · have hm2 : d.natAbs * (p.2.den : Int).natAbs < 2 ^ (b * i + 1 + b) := lt_pow_mul dB eB
          have : (lcmN d (p.2.den : Int)).natAbs ≤ d.natAbs * (p.2.den : Int).natAbs := by
            rw [← Int.natAbs_mul]
            omega
          rw [Nat.mul_succ, show b * i + b + 1 = b * i + 1 + b by omega]
          omega
        · by_cases h : j < i
          · exact Int.dvd_trans (dD j q h hq) l2
          · obtain rfl : j = i := by omega
            rw [hp] at hq
            cases hq
            exact l3
    · rintro σ H' ⟨rfl, d, s2, s3, rfl, d0, dB, dD⟩
      rw [len] at dB dD
      have dv : ∀ p ∈ qs, (p.2.den : Int) ∣ d := fun p hp => by
        obtain ⟨j, hj, e⟩ := List.getElem_of_mem hp
        exact dD j p hj (by rw [List.getElem?_eq_getElem hj, e])
      have oks : ∀ p ∈ prs qs, okCut p.2.1 p.2.2 d ∧ (gCut p.2.1 p.2.2 d).natAbs < 2 ^ (b + (b * qs.length + 1)) := fun p hp => by
        obtain ⟨q, hq, rfl⟩ := List.mem_map.mp hp
        exact cut_ok (hb q hq) d0 dB (dv q hq) (by omega)
      refine ⟨.ref yl, rfl, yl, prs qs, d, rfl, hL, fun p hp => (oks p hp).1, rfl, hT, fun H2 tab => ?_⟩
      refine ⟨_, rfl, sumP (prs qs) d gCut, d, b * qs.length + b + qs.length + 1, rfl, by omega, ?_, lt_pow_mono (by omega) dB, by omega, fun z H3 e3 f => ?_⟩
      · have h1 := sumP_abs (M := 2 ^ (b + (b * qs.length + 1))) (prs qs) fun p hp => Nat.le_of_lt (oks p hp).2
        have h2 : (prs qs).length = qs.length := by rw [prs, List.length_map]
        rw [h2] at h1
        have h3 : qs.length * 2 ^ (b + (b * qs.length + 1)) < 2 ^ qs.length * 2 ^ (b + (b * qs.length + 1)) := Nat.mul_lt_mul_of_pos_right Nat.lt_two_pow_self (Nat.two_pow_pos _)
        rw [← Nat.pow_add, show qs.length + (b + (b * qs.length + 1)) = b * qs.length + b + qs.length + 1 by omega] at h3
        omega
      · rw [sum_divInt (by omega) dv] at f
        refine k z H3 (fun c o nc hc => e3 _ _ ?_) ?_ f
        · rw [tab.2 c nc]
          exact hc
        · obtain ⟨tbs, h1, h2⟩ := tab.1
          exact ⟨tbs, e3 _ _ h1, h2⟩
end
/-! ### the program: onenumber.errors, onenumber.amounts, for any data -/
/-- an error of the class at C that keeps v, raised from H on -/
def Er (C : Addr) (v : V) (H : Hp) (E : XK) : Prop := ∀ dd k H', Ex H H' → H' dd = some (.xd (kd k v)) → E (.ref C) (some dd) H'
theorem Er.ex {C : Addr} {v : V} {H H1 : Hp} {E : XK} (e : Ex H H1) (h : Er C v H E) : Er C v H1 E := fun dd k H' e' q => h dd k H' (e.trans e') q
theorem rd_raise {C : Addr} {v : V} {σ : L2.St} {H : Hp} {i : Nat} {E : XK} (hv : σ[i]? = some (some v)) (k : Er C v H E) : tMkO C (spInit C) [] (tCons (tVar i) tNil) σ H E := by
  refine ⟨v, hv, by show 1 ≤ 1000; decide, fun a ha => ⟨a, v, rfl, upd_same, fun dx kn H' h1 ne e1 e2 keep => ⟨rfl, dx, _, e1, e2, ?_, ?_⟩⟩⟩
  · rw [upd_ne ne] at h1
    exact h1
  · rw [upd_ne ne] at h1
    refine k dx kn _ (fun b o hb => ?_) upd_same
    have n1 : b ≠ a := ne_of_none hb ha
    rw [upd_ne (ne_of_none hb h1), del_ne n1]
    exact keep b o n1 (by rw [upd_ne n1]; exact hb)
def ival : PyData → Int
  | .int n => n
  | _ => 0
section
variable {K : PySem.W.Frag} {p : Addr} {H H' : Hp} {v : V} {d : PyData} {σ : L2.St} {i : Nat} {b : Bool}
theorem Dq.ival (h : Dq K p H v d) (hw : isWh d = true) : v = .int (ival d) ∧ d = .int (Jf.ival d) := by
  cases h with
  | int n => exact ⟨rfl, rfl⟩
  | _ => cases hw
theorem ev_isi {T : String} (hv : σ[i]? = some (some v)) (hd : Dq K p H v d) (hk : kitB (tyName d) T = some b) : Ev (tCB (rIsi K) (tCons (tVar i) (tCons (tC (.ty T)) tNil))) σ H (.bl b) :=
  fun H1 e Q k => ⟨v, hv, v, .ty T, .type (tyName d), .type T, b, rfl, .ty _, (Dq.ex e _ _ hd).ty, kit_ty hk, k H1 (Ex.refl H1)⟩
def spIsD (K : PySem.W.Frag) (sm : PyData → Prop) (f : PyData → Bool) : Sp := fun vs H Q _ => ∃ (p : Addr) (v : V) (d : PyData), vs = [v] ∧ Dq K p H v d ∧ sm d ∧ ∀ H', Ex H H' → Q (.bl (f d)) H'
theorem ev_isD {E : XK} {sm : PyData → Prop} {f : PyData → Bool} {te : TE} (he : Ev te σ H v) (hd : Dq K p H v d) (hs : sm d) : Ev (tCall (spIsD K sm f) [] E (tCons te tNil)) σ H (.bl (f d)) :=
  fun H1 e Q k => he H1 e _ fun H2 e2 => ⟨p, v, d, rfl, Dq.ex (e.trans e2) _ _ hd, hs, fun H' e' => k H' (e2.trans e')⟩
/-- nothing asked -/
def Any (_ : PyData) : Prop := True
def spReq (K : PySem.W.Frag) (C : Addr) (f : PyData → Bool) : Sp := fun vs H Q E => ∃ (p : Addr) (v : V) (d : PyData), vs = [v] ∧ Dq K p H v d ∧ (f d = true → ∀ H', Ex H H' → Q .non H') ∧ (f d = false → Er C v H E)
/-- two fractions, or none -/
def spX (K : PySem.W.Frag) (C : Addr) (ok : Rat → Prop) (R : Rat → Rat → V → Hp → Prop) : Sp := fun vs H Q E => ∃ (p : Addr) (u v : V) (d e : PyData), vs = [u, v] ∧ Dq K p H u d ∧ Dq K p H v e ∧ Bd 100 (frQ d) ∧ Bd 100 (frQ e) ∧
  (frB d = false → Er C u H E) ∧ (frB d = true → frB e = false → Er C v H E) ∧ (frB d = true → frB e = true → ¬ ok (frQ e) → Er C v H E) ∧
  (frB d = true → frB e = true → ok (frQ e) → ∀ z H', Ex H H' → R (frQ d) (frQ e) z H' → Q z H')
end
section
variable {P : Program} {w : World} {K : PySem.W.Frag} {mg : Str → Option Value} {base : Heap}
end
section
variable {P : Program} {w : World} {K : PySem.W.Frag} {mg : Str → Option Value} {base : Heap}
theorem ok_i_MixError (T : Txt K mg) : FnOk P w K mg base CX0 1 T.M.f T.M.fd ["self", "value"] (spInitM K) := by
  refine T.M.F.ok sc_i_MixError (fun vs H Q E h => ?_) (fun cdv A outer s H vs Q E hr h => ?_)
  · obtain ⟨C, a, v, nm, rfl, _⟩ := h
    rfl
  · obtain ⟨C, a, v, nm, rfl, ox, nv, nk, NM, ha, k⟩ := h
    refine ⟨_, pss_cons (ps_expr (pe_veinit (by rfl) T.n_ValueError T.v_VE (pa_cons (pv 0) (pa_cons pe_str pa_nil)))) (pss_cons (ps_ost (pv 0) (pv 1)) (pss_one (ps_ost (pv 0) (pe_nm (pv 0))))), ?_⟩
    refine ⟨_, rfl, a, C, _, rfl, by show 1 ≤ 1000; decide, ox, ha, ?_⟩
    refine ⟨v, rfl, .ref a, rfl, a, C, rfl, ox, nv, .inl ⟨ha, fun dx hdx ne => ?_⟩⟩
    have ed : (upd (upd H dx (exd dx [(("value" : Str), v)])) a (exo a C (some dx))) dx = some (exd dx [(("value" : Str), v)]) := by rw [upd_ne ne]; exact upd_same
    refine ⟨.ref a, rfl, a, C, dx, _, nm, rfl, NM, upd_same, ed, .ref a, rfl, a, C, rfl, ox, nk, .inr ⟨dx, _, upd_same, ed, by show 1 ≤ 900; decide, ?_⟩⟩
    refine k dx nm _ hdx ne (by rw [upd_ne ne.symm]; exact upd_same) upd_same fun b o hb h => ?_
    rw [upd_ne (ne_of_none h hdx), upd_ne hb, upd_ne (ne_of_none h hdx)]
    exact h
theorem ok_i_BadFraction (T : Txt K mg) : FnOk P w K mg base CX0 2 T.E_BadFraction.f T.E_BadFraction.fd ["self", "value"] (spInit T.E_BadFraction.C) := by
  refine T.E_BadFraction.F.ok sc_i_BadFraction (fun vs H Q E h => ?_) (fun cdv A outer s H vs Q E hr h => ?_)
  · obtain ⟨a, v, rfl, _⟩ := h
    rfl
  · obtain ⟨a, v, rfl, ha, k⟩ := h
    refine ⟨_, pss_one (ps_expr (pe_clsdef (by rfl) T.M.g T.M.rd T.M.ga T.M.fi T.M.kp (ok_i_MixError T) (hr.mono (by decide)) T.M.b pass0 (pa_cons (pv 0) (pa_cons (pv 1) pa_nil)))), ?_⟩
    exact ⟨_, rfl, _, rfl, T.E_BadFraction.C, a, v, _, rfl, T.E_BadFraction.x.oex, T.E_BadFraction.x.noV, T.E_BadFraction.x.noK, T.E_BadFraction.x.nm, ha, k⟩
theorem ok_i_BadPair (T : Txt K mg) : FnOk P w K mg base CX0 2 T.E_BadPair.f T.E_BadPair.fd ["self", "value"] (spInit T.E_BadPair.C) := by
  refine T.E_BadPair.F.ok sc_i_BadPair (fun vs H Q E h => ?_) (fun cdv A outer s H vs Q E hr h => ?_)
  · obtain ⟨a, v, rfl, _⟩ := h
    rfl
  · obtain ⟨a, v, rfl, ha, k⟩ := h
    refine ⟨_, pss_one (ps_expr (pe_clsdef (by rfl) T.M.g T.M.rd T.M.ga T.M.fi T.M.kp (ok_i_MixError T) (hr.mono (by decide)) T.M.b pass0 (pa_cons (pv 0) (pa_cons (pv 1) pa_nil)))), ?_⟩
    exact ⟨_, rfl, _, rfl, T.E_BadPair.C, a, v, _, rfl, T.E_BadPair.x.oex, T.E_BadPair.x.noV, T.E_BadPair.x.noK, T.E_BadPair.x.nm, ha, k⟩
end
section
variable {P : Program} {w : World} {K : PySem.W.Frag} {mg : Str → Option Value} {base : Heap}
theorem ok_is_whole (T : Txt K mg) : FnOk P w K mg base CX0 1 T.d_is_whole.a T.d_is_whole.fd ["value"] (spIsD K Any isWh) := by
  refine T.d_is_whole.F.ok sc_is_whole (fun vs H Q E h => ?_) (fun cdv A outer s H vs Q E hr h => ?_)
  · obtain ⟨p, v, d, rfl, _⟩ := h
    rfl
  · obtain ⟨p, v, d, rfl, hd, _, k⟩ := h
    refine ⟨_, (pss_one (ps_ret (pe_and (pe_callB call_isi (by rfl) T.n_isinstance (by decide +kernel) (pa_cons (pv 0) (pa_cons (pe_bltn (v := .ty "int") (by rfl) T.n_int (by decide +kernel) rfl) pa_nil))) (pe_one (pe_not (pe_callB call_isi (by rfl) T.n_isinstance (by decide +kernel) (pa_cons (pv 0) (pa_cons (pe_bltn (v := .ty "bool") (by rfl) T.n_bool (by decide +kernel) rfl) pa_nil)))))))), ?_⟩
    refine s_ret (ev_andV (ev_isi rfl hd (kit_int d)) fun _ => ev_notV (ev_isi rfl hd (kit_bool d))) fun H1 e => ?_
    rw [wh_eq]
    exact k H1 e
theorem ok_is_fraction (T : Txt K mg) : FnOk P w K mg base CX0 2 T.d_is_fraction.a T.d_is_fraction.fd ["value"] (spIsD K Any frB) := by
  refine T.d_is_fraction.F.ok sc_is_fraction (fun vs H Q E h => ?_) (fun cdv A outer s H vs Q E hr h => ?_)
  · obtain ⟨p, v, d, rfl, _⟩ := h
    rfl
  · obtain ⟨p, v, d, rfl, hd, _, k⟩ := h
    refine ⟨_, (pss_cons (ps_if (PW.pt (pw_or (pt_not (pt_val (pe_callB call_isi (by rfl) T.n_isinstance (by decide +kernel) (pa_cons (pv 0) (pa_cons (pe_bltn (v := .ty "tuple") (by rfl) T.n_tuple (by decide +kernel) rfl) pa_nil))))) (pw_or1 (pt_cmpR op_ne (pe_callB call_len_seq (by rfl) T.n_len (by decide +kernel) (pa_cons (pv 0) pa_nil)) pe_int (nomark _))))) (pss_one (ps_ret pe_bl)) pss_nil)
      (pss_cons (ps_asg (pv 0) (pg_tup (by rfl) (pgs_cons (pg_name (i := 1) sc_is_fraction.nd rfl (Or.inl rfl)) (pgs_cons (pg_name (i := 2) sc_is_fraction.nd rfl (Or.inl rfl)) pgs_nil))))
      (pss_cons (ps_if (PW.pt (pw_or (pt_not (pt_val (pe_call (ok_is_whole T) (hr.mono (by decide)) (by rfl) T.d_is_whole.g T.d_is_whole.F.kp T.d_is_whole.b .nil pass0 (pa_cons (pv 1) pa_nil)))) (pw_or (pt_not (pt_val (pe_call (ok_is_whole T) (hr.mono (by decide)) (by rfl) T.d_is_whole.g T.d_is_whole.F.kp T.d_is_whole.b .nil pass0 (pa_cons (pv 2) pa_nil)))) (pw_or1 (pt_cmpR op_le (pv 2) pe_int (nomark _)))))) (pss_one (ps_ret pe_bl)) pss_nil)
      (pss_one (ps_ret (pe_cmpR op_eq (pe_callBfun cr_gcd (by rfl) T.n_gcd (pa_cons (pv 1) (pa_cons (pv 2) pa_nil))) pe_int (nomark _))))))), ?_⟩
    by_cases ht : isTup d = true
    · cases hd with
      | @tup a xs ds hS hA =>
        by_cases h2 : xs.length = 2
        · have h2' := h2
          rw [hA.len] at h2'
          obtain ⟨x1, x2, rfl⟩ : ∃ x1 x2, xs = [x1, x2] := match xs, h2 with | [x1, x2], _ => ⟨x1, x2, rfl⟩
          obtain ⟨d1, d2, rfl⟩ : ∃ d1 d2, ds = [d1, d2] := match ds, h2' with | [d1, d2], _ => ⟨d1, d2, rfl⟩
          have hD : Dq K p H (.ref a) (.tuple [d1, d2]) := .tup hS hA
          obtain ⟨q1, q2⟩ : Dq K p H x1 d1 ∧ Dq K p H x2 d2 := by
            cases hA with
            | cons a b =>
              cases b with
              | cons b c => exact ⟨a, b⟩
          refine s_if (b := false) (et_is (et_or (et_not (et_B (ev_isi rfl hD (kit_tup _)))) fun _ => et_test (fun H1 e Q k => ⟨_, rfl, a, _, rfl, .inr (ex_t e hS), rfl, k H1 (Ex.refl H1)⟩)) rfl) (fun z => nomatch z) fun _ H1 e1 => ?_
          refine ⟨_, rfl, a, [x1, x2], rfl, ex_t e1 hS, rfl, _, _, rfl, _, _, rfl, rfl, ?_⟩
          have r1 := Dq.ex e1 _ _ q1
          have r2 := Dq.ex e1 _ _ q2
          have hlt : isWh d2 = true → x2 = .int (ival d2) := fun z => (r2.ival z).1
          refine s_if (b := !isWh d1 || (!isWh d2 || decide (ival d2 ≤ 0))) (et_or (et_not (et_B (ev_isD (ev_var rfl) r1 trivial))) fun _ => et_or (et_not (et_B (ev_isD (ev_var rfl) r2 trivial))) fun z => et_test (by
            have z' : isWh d2 = true := by simpa using z
            have hx := hlt z'
            subst hx
            exact ev_op (ev_var rfl) ev_c rv_I0)) (fun z H2 e2 => ?_) (fun z H2 e2 => ?_)
          · have e : frB (.tuple [d1, d2]) = false := by
              cases d1 with
              | int n =>
                cases d2 with
                | int m =>
                  have z' : decide (m ≤ 0) = true := z
                  have : ¬ 0 < m := by
                    have := of_decide_eq_true z'
                    omega
                  simp [frB, this]
                | _ => rfl
              | _ => rfl
            rw [e] at k
            exact k H2 (e1.trans e2)
          · have w1 : isWh d1 = true := by
              cases h : isWh d1 with
              | true => rfl
              | false =>
                rw [h] at z
                cases z
            have w2 : isWh d2 = true := by
              cases h : isWh d2 with
              | true => rfl
              | false =>
                rw [h, w1] at z
                cases z
            obtain ⟨g1, g2⟩ := r1.ival w1
            obtain ⟨g3, g4⟩ := r2.ival w2
            rw [w1, w2] at z
            have z' : ¬ ival d2 ≤ 0 := of_decide_eq_false (by simpa using z)
            generalize ival d1 = n at g1 g2
            generalize ival d2 = m at g3 g4 z'
            subst g1 g2 g3 g4
            refine ⟨_, rfl, _, rfl, n, m, rfl, rfl, ?_⟩
            have e : frB (.tuple [.int n, .int m]) = decide (V.int ((Nat.gcd n.natAbs m.natAbs : Nat) : Int) = V.int 1) := by
              simp only [frB]
              rw [decide_eq_true (by omega : 0 < m), Bool.true_and]
              rw [Bool.eq_iff_iff, decide_eq_true_iff, decide_eq_true_iff]
              constructor
              · intro h
                rw [h]
                rfl
              · intro h
                have := V.int.inj h
                omega
            rw [e] at k
            exact k H2 (e1.trans e2)
        · refine s_if (b := true) (et_is (et_or (et_not (et_B (ev_isi rfl (.tup hS hA) (kit_tup _)))) fun _ => et_test (fun H1 e Q k => ⟨_, rfl, a, _, rfl, .inr (ex_t e hS), rfl, k H1 (Ex.refl H1)⟩)) ?_) (fun _ H1 e1 => ?_) (fun z => nomatch z)
          · have : ¬ V.int (xs.length : Int) = V.int 2 := fun z => h2 (by
              have := V.int.inj z
              omega)
            simp [isTup, this]
          · have e : frB (.tuple ds) = false := by
              have := hA.len
              match ds, this with
              | [], _ => rfl
              | [_], _ => simp [frB]
              | [_, _], h => exact absurd h h2
              | _ :: _ :: _ :: _, _ => simp [frB]
            rw [e] at k
            exact k H1 e1
      | _ => cases ht
    · have e : frB d = false := by
        cases d <;> (first | rfl | exact absurd rfl ht)
      have ht' : isTup d = false := by simpa using ht
      refine s_if (b := true) (et_is (et_or (b := false) (et_not (et_B (ev_isi rfl hd (kit_tup d)))) fun z => ?_) ?_) (fun _ H1 e1 => ?_) (fun z => nomatch z)
      · rw [ht'] at z
        cases z
      · rw [ht']
        rfl
      · rw [e] at k
        exact k H1 e1
end
/-! ### pairs -/
/-- whether data is a pair's -/
def prB : PyData → Bool
  | .tuple [d, e] => frB d && frB e
  | _ => false
section
variable {P : Program} {w : World} {K : PySem.W.Frag} {mg : Str → Option Value} {base : Heap}
theorem ok_require_fraction (T : Txt K mg) : FnOk P w K mg base (L2.CX P w) 4 T.d_require_fraction.a T.d_require_fraction.fd ["value"] (spReq K T.E_BadFraction.C frB) := by
  refine T.d_require_fraction.F.okX sc_require_fraction (fun vs H Q E h => ?_) (fun cdv A outer s H vs Q E hr h => ?_)
  · obtain ⟨p, v, d, rfl, _⟩ := h
    rfl
  · obtain ⟨p, v, d, rfl, hd, k1, k2⟩ := h
    refine ⟨_, (pss_one (ps_if (pt_not (pt_val (pe_call (ok_is_fraction T) (hr.mono (by decide)) (by rfl) T.d_is_fraction.g T.d_is_fraction.F.kp T.d_is_fraction.b .nil pass0 (pa_cons (pv 0) pa_nil)))) (pss_one (ps_raise rfl (takes_of rfl rfl rfl rfl) (pmk_oex T.E_BadFraction.x.oex T.E_BadFraction.x.i T.E_BadFraction.x.t (ok_i_BadFraction T) (hr.mono (by decide)) T.E_BadFraction.b .nil pass0 (by rfl) T.E_BadFraction.g (pa_cons (pv 0) pa_nil)))) pss_nil)), ?_⟩
    refine s_if (et_not (et_B (ev_isD (ev_var rfl) hd trivial))) (fun z H1 e1 => ?_) (fun z H1 e1 => ?_)
    · exact rd_raise rfl ((k2 (by simpa using z)).ex e1)
    · exact k1 (by simpa using z) H1 e1
theorem ok_is_pair (T : Txt K mg) : FnOk P w K mg base CX0 3 T.d_is_pair.a T.d_is_pair.fd ["value"] (spIsD K Any prB) := by
  refine T.d_is_pair.F.ok sc_is_pair (fun vs H Q E h => ?_) (fun cdv A outer s H vs Q E hr h => ?_)
  · obtain ⟨p, v, d, rfl, _⟩ := h
    rfl
  · obtain ⟨p, v, d, rfl, hd, _, k⟩ := h
    refine ⟨_, (pss_one (ps_ret (pe_and (pe_callB call_isi (by rfl) T.n_isinstance (by decide +kernel) (pa_cons (pv 0) (pa_cons (pe_bltn (v := .ty "tuple") (by rfl) T.n_tuple (by decide +kernel) rfl) pa_nil))) (pe_and (pe_cmpR op_eq (pe_callB call_len_seq (by rfl) T.n_len (by decide +kernel) (pa_cons (pv 0) pa_nil)) pe_int (nomark _)) (pe_and (pe_call (ok_is_fraction T) (hr.mono (by decide)) (by rfl) T.d_is_fraction.g T.d_is_fraction.F.kp T.d_is_fraction.b .nil pass0 (pa_cons (pe_ix ix_tup (pv 0) pe_int (fun _ _ => rfl)) pa_nil)) (pe_one (pe_call (ok_is_fraction T) (hr.mono (by decide)) (by rfl) T.d_is_fraction.g T.d_is_fraction.F.kp T.d_is_fraction.b .nil pass0 (pa_cons (pe_ix ix_tup (pv 0) pe_int (fun _ _ => rfl)) pa_nil)))))))), ?_⟩
    by_cases ht : isTup d = true
    · cases hd with
      | @tup a xs ds hS hA =>
        have LEN : ∀ {H'}, Ex H H' → Ev (tOp rEq (tCB (fun xs H_1 Q => ∃ p ys, xs = [V.ref p] ∧ (SqL K H_1 p ys ∨ SqT K H_1 p ys) ∧ Q (V.int ys.length) H_1) (tCons (tVar 0) tNil)) (tC (.int 2))) [some (.ref a)] H' (.bl (decide (V.int (xs.length : Int) = V.int 2))) := fun e0 H1 e Q k => ⟨_, rfl, a, _, rfl, .inr (ex_t (e0.trans e) hS), rfl, k H1 (Ex.refl H1)⟩
        by_cases h2 : xs.length = 2
        · have h2' := h2
          rw [hA.len] at h2'
          obtain ⟨x1, x2, rfl⟩ : ∃ x1 x2, xs = [x1, x2] := match xs, h2 with | [x1, x2], _ => ⟨x1, x2, rfl⟩
          obtain ⟨d1, d2, rfl⟩ : ∃ d1 d2, ds = [d1, d2] := match ds, h2' with | [d1, d2], _ => ⟨d1, d2, rfl⟩
          have hD : Dq K p H (.ref a) (.tuple [d1, d2]) := .tup hS hA
          obtain ⟨q1, q2⟩ : Dq K p H x1 d1 ∧ Dq K p H x2 d2 := by
            cases hA with
            | cons h1 h2 =>
              cases h2 with
              | cons h3 h4 => exact ⟨h1, h3⟩
          have i1 : Ev (tOp (rIxT K) (tVar 0) (tC (.int 0))) [some (.ref a)] H x1 := fun H1 e Q k => ⟨_, rfl, a, _, 0, x1, rfl, rfl, ex_t e hS, rfl, k H1 (Ex.refl H1)⟩
          have i2 : Ev (tOp (rIxT K) (tVar 0) (tC (.int 1))) [some (.ref a)] H x2 := fun H1 e Q k => ⟨_, rfl, a, _, 1, x2, rfl, rfl, ex_t e hS, rfl, k H1 (Ex.refl H1)⟩
          exact s_ret (ev_andV (ev_isi rfl hD (kit_tup _)) fun _ => ev_andV (LEN (Ex.refl H)) fun _ => ev_andV (ev_isD i1 q1 trivial) fun _ => ev_isD i2 q2 trivial) fun H1 e => k H1 e
        · have e0 : decide (V.int (xs.length : Int) = V.int 2) = false := decide_eq_false fun z => h2 (by
            have := V.int.inj z
            omega)
          have e : prB (.tuple ds) = false := by
            have := hA.len
            match ds, this with
            | [], _ => rfl
            | [_], _ => rfl
            | [_, _], h => exact absurd h h2
            | _ :: _ :: _ :: _, _ => rfl
          rw [e] at k
          refine s_ret (ev_is (ev_andV (b := false) (ev_isi rfl (.tup hS hA) (kit_tup _)) fun _ => ev_is (ev_andV (b := false) (LEN (Ex.refl H)) fun z => ?_) ?_) ?_) fun H1 e => k H1 e
          · rw [e0] at z
            cases z
          · rw [e0]
            rfl
          · rw [Bool.and_false]
      | _ => cases ht
    · have e : prB d = false := by
        cases d <;> (first | rfl | exact absurd rfl ht)
      have ht' : isTup d = false := by simpa using ht
      rw [e] at k
      refine s_ret (ev_is (ev_andV (b := false) (ev_isi rfl hd (kit_tup d)) fun z => ?_) ?_) fun H1 e => k H1 e
      · rw [ht'] at z
        cases z
      · rw [Bool.and_false]
theorem ok_require_pair (T : Txt K mg) : FnOk P w K mg base (L2.CX P w) 4 T.d_require_pair.a T.d_require_pair.fd ["value"] (spReq K T.E_BadPair.C prB) := by
  refine T.d_require_pair.F.okX sc_require_pair (fun vs H Q E h => ?_) (fun cdv A outer s H vs Q E hr h => ?_)
  · obtain ⟨p, v, d, rfl, _⟩ := h
    rfl
  · obtain ⟨p, v, d, rfl, hd, k1, k2⟩ := h
    refine ⟨_, (pss_one (ps_if (pt_not (pt_val (pe_call (ok_is_pair T) (hr.mono (by decide)) (by rfl) T.d_is_pair.g T.d_is_pair.F.kp T.d_is_pair.b .nil pass0 (pa_cons (pv 0) pa_nil)))) (pss_one (ps_raise rfl (takes_of rfl rfl rfl rfl) (pmk_oex T.E_BadPair.x.oex T.E_BadPair.x.i T.E_BadPair.x.t (ok_i_BadPair T) (hr.mono (by decide)) T.E_BadPair.b .nil pass0 (by rfl) T.E_BadPair.g (pa_cons (pv 0) pa_nil)))) pss_nil)), ?_⟩
    refine s_if (et_not (et_B (ev_isD (ev_var rfl) hd trivial))) (fun z H1 e1 => ?_) (fun z H1 e1 => ?_)
    · exact rd_raise rfl ((k2 (by simpa using z)).ex e1)
    · exact k1 (by simpa using z) H1 e1
end
/-! ### the program's turn -/
theorem n_next {D : Ends} {σ : L2.St} {H : Hp} (h : D.nx σ H) : tNext D σ H := h
theorem n_name {i : Nat} {v : V} {σ : L2.St} {H : Hp} {N : L2.St → Hp → Prop} (h : N (σ.set i (some v)) H) : gName i v σ H N := h
theorem pos_of {U B : Rat} (hB : 0 < B) (h : 0 < U * B) : 0 < U := by
  by_cases h1 : 0 < U
  · exact h1
  · by_cases h2 : U = 0
    · rw [h2] at h
      grind
    · have h3 : 0 < -U := by grind
      have := Rat.mul_pos h3 hB
      grind
/-- a pair of fractions stands at v -/
def Pr (K : PySem.W.Frag) (b : Nat) (q r : Rat) (v : V) (H : Hp) : Prop := ∃ (a : Addr) (x y : V), v = .ref a ∧ SqT K H a [x, y] ∧ Fr K b q x H ∧ Fr K b r y H
theorem Pr.mono {K : PySem.W.Frag} {b c : Nat} {q r : Rat} {v : V} {H : Hp} (e : b ≤ c) (h : Pr K b q r v H) : Pr K c q r v H := by
  obtain ⟨a, x, y, rfl, h, f, g⟩ := h
  exact ⟨a, x, y, rfl, h, f.mono e, g.mono e⟩
theorem Pr.ex {K : PySem.W.Frag} {b : Nat} {q r : Rat} {v : V} {H H' : Hp} (e : Ex H H') (h : Pr K b q r v H) : Pr K b q r v H' := by
  obtain ⟨a, x, y, rfl, h, f, g⟩ := h
  exact ⟨a, x, y, rfl, ex_t e h, f.ex e, g.ex e⟩
def turnQ (q r s t : Rat) : Rat := q * t - s * r
theorem turn_sign {q r s t : Rat} {X Y Z W g g' : Int} (g0 : 0 < g) (g0' : 0 < g') (gx : g * X = q.num * r.den) (gy : g * Y = r.num * q.den) (gz : g' * Z = s.num * t.den) (gw : g' * W = t.num * s.den) :
    (0 < X * W - Y * Z ↔ 0 < turnQ q r s t) ∧ (X * W - Y * Z = 0 ↔ turnQ q r s t = 0) := by
  -- times the four bottoms
  have c : ∀ q : Rat, (q.num : Rat) = q * ((q.den : Int) : Rat) := fun q => by
    have e : (q.num : Rat) / ((q.den : Int) : Rat) = q := by
      rw [← Rat.divInt_eq_div]
      exact Rat.num_divInt_den q
    have n0 : ((q.den : Int) : Rat) ≠ 0 := fun z => den_ne q (by exact_mod_cast z)
    grind
  have dp : ∀ q : Rat, (0 : Rat) < ((q.den : Int) : Rat) := fun q => by exact_mod_cast den_pos q
  have key : ((g * g' * (X * W - Y * Z) : Int) : Rat) = turnQ q r s t * (((q.den : Int) : Rat) * ((r.den : Int) : Rat) * ((s.den : Int) : Rat) * ((t.den : Int) : Rat)) := by
    have e : g * g' * (X * W - Y * Z) = (g * X) * (g' * W) - (g * Y) * (g' * Z) := by grind
    rw [e, gx, gy, gz, gw]
    simp only [Rat.intCast_sub, Rat.intCast_mul, c q, c r, c s, c t]
    unfold turnQ
    grind
  have hp : (0 : Rat) < ((q.den : Int) : Rat) * ((r.den : Int) : Rat) * ((s.den : Int) : Rat) * ((t.den : Int) : Rat) := Rat.mul_pos (Rat.mul_pos (Rat.mul_pos (dp q) (dp r)) (dp s)) (dp t)
  have gp : 0 < g * g' := Int.mul_pos g0 g0'
  generalize ((q.den : Int) : Rat) * ((r.den : Int) : Rat) * ((s.den : Int) : Rat) * ((t.den : Int) : Rat) = B at key hp
  generalize X * W - Y * Z = N at key ⊢
  generalize g * g' = G at key gp
  generalize turnQ q r s t = U at key ⊢
  have k1 : ((G : Int) : Rat) * ((N : Int) : Rat) = U * B := by rw [← Rat.intCast_mul]; exact key
  have Gp : (0 : Rat) < (G : Rat) := by exact_mod_cast gp
  have a1 : (0 < N ↔ (0 : Rat) < (N : Rat)) := by
    constructor
    · intro h
      exact_mod_cast h
    · intro h
      exact_mod_cast h
  have a2 : (N = 0 ↔ (N : Rat) = 0) := by
    constructor
    · intro h
      exact_mod_cast h
    · intro h
      exact_mod_cast h
  rw [a1, a2]
  constructor
  · constructor
    · intro h
      have := Rat.mul_pos Gp h
      rw [k1] at this
      exact pos_of hp this
    · intro h
      have := Rat.mul_pos h hp
      rw [← k1, Rat.mul_comm] at this
      exact pos_of Gp this
  · constructor
    · intro h
      rw [h] at k1
      grind
    · intro h
      rw [h] at k1
      grind
section
variable {P : Program} {w : World} {K : PySem.W.Frag} {mg : Str → Option Value} {base : Heap}
def spArrow (K : PySem.W.Frag) : Sp := fun vs H Q _ => ∃ (v : V) (b : Nat) (q r : Rat), vs = [v] ∧ Pr K b q r v H ∧ b ≤ 1000 ∧
  ∀ (X Y g : Int) (z : Addr) (H' : Hp), Ex H H' → 0 < g → g * X = q.num * r.den → g * Y = r.num * q.den → X.natAbs < 2 ^ (b + b) → Y.natAbs < 2 ^ (b + b) → SqT K H' z [.int X, .int Y] → Q (.ref z) H'
theorem ok_arrow (T : Txt K mg) : FnOk P w K mg base CX0 1 T.d_arrow.a T.d_arrow.fd ["pair"] (spArrow K) := by
  refine T.d_arrow.F.ok sc_arrow (fun vs H Q E h => ?_) (fun cdv A outer s H vs Q E hr h => ?_)
  · obtain ⟨v, b, q, r, rfl, _⟩ := h
    rfl
  · obtain ⟨v, b, q, r, rfl, ⟨a, x, y, rfl, hS, f, g⟩, hb, k⟩ := h
    refine ⟨_, (pss_cons (ps_asg (pv 0) (pg_tup (by rfl) (pgs_cons (pg_tup (by rfl) (pgs_cons (pg_name (i := 1) sc_arrow.nd rfl (Or.inl rfl)) (pgs_cons (pg_name (i := 2) sc_arrow.nd rfl (Or.inl rfl)) pgs_nil))) (pgs_cons (pg_tup (by rfl) (pgs_cons (pg_name (i := 3) sc_arrow.nd rfl (Or.inl rfl)) (pgs_cons (pg_name (i := 4) sc_arrow.nd rfl (Or.inl rfl)) pgs_nil))) pgs_nil))))
      (pss_cons (ps_par (i := 5) (j := 6) (by rfl) sc_arrow.nd rfl rfl (by decide) rfl rfl (pa_cons (pe_op op_mulW (pv 1) (pv 4)) (pa_cons (pe_op op_mulW (pv 3) (pv 2)) pa_nil)) (by rfl))
      (pss_cons (ps_set (i := 7) sc_arrow.nd rfl (Or.inl rfl) (pe_callBfun cr_gcd (by rfl) T.n_gcd (pa_cons (pv 5) (pa_cons (pv 6) pa_nil))))
      (pss_cons (ps_if (pt_cmpR op_eq (pv 7) pe_int (nomark _)) (pss_one (ps_ret (pe_tup (pa_cons pe_int (pa_cons pe_int pa_nil))))) pss_nil)
      (pss_one (ps_ret (pe_tup (pa_cons (pe_op op_fdivZ (pv 5) (pv 7)) (pa_cons (pe_op op_fdivZ (pv 6) (pv 7)) pa_nil))))))))), ?_⟩
    obtain ⟨px, rfl, fx, bx⟩ := f
    obtain ⟨py, rfl, gy, by'⟩ := g
    refine n_seq ?_
    refine ⟨_, rfl, a, _, rfl, hS, rfl, _, _, rfl, px, _, rfl, fx, rfl, _, _, rfl, _, _, rfl, rfl, _, _, rfl, py, _, rfl, gy, rfl, _, _, rfl, _, _, rfl, rfl, rfl, ?_⟩
    dsimp only
    refine n_seq ?_
    refine ⟨_, rfl, _, rfl, q.num, (r.den : Int), rfl, rfl, mulW bx.1 (bd_den by') (by omega), _, rfl, _, rfl, r.num, (q.den : Int), rfl, rfl, mulW by'.1 (bd_den bx) (by omega), _, _, rfl, ?_⟩
    have bX : (q.num * (r.den : Int)).natAbs < 2 ^ (b + b) := bn_mul bx.1 (bd_den by')
    have bY : (r.num * (q.den : Int)).natAbs < 2 ^ (b + b) := bn_mul by'.1 (bd_den bx)
    dsimp only
    generalize q.num * (r.den : Int) = X at k bX ⊢
    generalize r.num * (q.den : Int) = Y at k bY ⊢
    refine n_seq ?_
    refine ⟨_, rfl, _, rfl, X, Y, rfl, ?_⟩
    dsimp only
    refine n_seq ?_
    refine s_if (b := decide (V.int ((Nat.gcd X.natAbs Y.natAbs : Nat) : Int) = V.int 0)) (et_test (ev_op (ev_var rfl) ev_c (rv_eq rfl))) (fun z H1 e1 => ?_) (fun z H1 e1 => ?_)
    · have z0 : Nat.gcd X.natAbs Y.natAbs = 0 := by
        have := V.int.inj (of_decide_eq_true z)
        omega
      have zX : X = 0 := Int.natAbs_eq_zero.mp (Nat.eq_zero_of_gcd_eq_zero_left z0)
      have zY : Y = 0 := Int.natAbs_eq_zero.mp (Nat.eq_zero_of_gcd_eq_zero_right z0)
      refine ⟨by show 2 ≤ sizeLine; decide, fun p hp => ?_⟩
      exact k 0 0 1 p _ (e1.trans (Ex.new hp)) (by decide) (by omega) (by omega) (by simpa using Nat.two_pow_pos _) (by simpa using Nat.two_pow_pos _) (SqT.of upd_same)
    · refine n_next ?_
      have z0 : Nat.gcd X.natAbs Y.natAbs ≠ 0 := fun h => of_decide_eq_false z (congrArg V.int (by omega))
      have d1 : ((Nat.gcd X.natAbs Y.natAbs : Nat) : Int) ∣ X := Int.ofNat_dvd_left.mpr (Nat.gcd_dvd_left _ _)
      have d2 : ((Nat.gcd X.natAbs Y.natAbs : Nat) : Int) ∣ Y := Int.ofNat_dvd_left.mpr (Nat.gcd_dvd_right _ _)
      have gB : (((Nat.gcd X.natAbs Y.natAbs : Nat) : Int)).natAbs < 2 ^ (b + b) := by
        rcases Nat.eq_zero_or_pos X.natAbs with h | h
        · have : Nat.gcd X.natAbs Y.natAbs = Y.natAbs := by rw [h, Nat.gcd_zero_left]
          omega
        · have := Nat.gcd_le_left Y.natAbs h
          omega
      have g0 : (0 : Int) < ((Nat.gcd X.natAbs Y.natAbs : Nat) : Int) := by omega
      have hz : ∀ i : Int, CDivZ i ((Nat.gcd X.natAbs Y.natAbs : Nat) : Int) := fun _ => ⟨by omega, log_lt gB (by omega : b + b ≤ 9000) (by decide)⟩
      have le : ∀ i : Int, ((Nat.gcd X.natAbs Y.natAbs : Nat) : Int) ∣ i → ((Nat.gcd X.natAbs Y.natAbs : Nat) : Int) * i.fdiv ((Nat.gcd X.natAbs Y.natAbs : Nat) : Int) = i ∧ (i.fdiv ((Nat.gcd X.natAbs Y.natAbs : Nat) : Int)).natAbs ≤ i.natAbs := fun i hi => by
        rw [Int.fdiv_eq_ediv_of_nonneg i (by omega)]
        have e := Int.mul_ediv_cancel' hi
        refine ⟨e, ?_⟩
        rw [Int.natAbs_ediv_of_dvd hi]
        exact Nat.div_le_self _ _
      obtain ⟨x1, x2⟩ := le X d1
      obtain ⟨y1, y2⟩ := le Y d2
      refine ⟨_, rfl, _, rfl, X, _, rfl, rfl, hz X, _, rfl, _, rfl, Y, _, rfl, rfl, hz Y, by show 2 ≤ sizeLine; decide, fun p hp => ?_⟩
      exact k _ _ _ p _ (e1.trans (Ex.new hp)) g0 x1 y1 (by omega) (by omega) (SqT.of upd_same)
def spTurn (K : PySem.W.Frag) : Sp := fun vs H Q _ => ∃ (a c : Addr) (X Y Z W : Int) (b : Nat), vs = [.ref a, .ref c] ∧ SqT K H a [.int X, .int Y] ∧ SqT K H c [.int Z, .int W] ∧ X.natAbs < 2 ^ b ∧ Y.natAbs < 2 ^ b ∧ Z.natAbs < 2 ^ b ∧ W.natAbs < 2 ^ b ∧ b ≤ 4000 ∧ Q (.int (X * W - Y * Z)) H
theorem ok_turn (T : Txt K mg) : FnOk P w K mg base CX0 1 T.d_turn.a T.d_turn.fd ["one", "other"] (spTurn K) := by
  refine T.d_turn.F.ok sc_turn (fun vs H Q E h => ?_) (fun cdv A outer s H vs Q E hr h => ?_)
  · obtain ⟨a, c, X, Y, Z, W, b, rfl, _⟩ := h
    rfl
  · obtain ⟨a, c, X, Y, Z, W, b, rfl, h1, h2, b1, b2, b3, b4, hb, k⟩ := h
    refine ⟨_, (pss_one (ps_ret (pe_op op_sub (pe_op op_mulW (pe_ix ix_tup (pv 0) pe_int (fun _ _ => rfl)) (pe_ix ix_tup (pv 1) pe_int (fun _ _ => rfl))) (pe_op op_mulW (pe_ix ix_tup (pv 0) pe_int (fun _ _ => rfl)) (pe_ix ix_tup (pv 1) pe_int (fun _ _ => rfl)))))), ?_⟩
    refine ⟨_, rfl, a, _, 0, .int X, rfl, rfl, h1, rfl, _, rfl, c, _, 1, .int W, rfl, rfl, h2, rfl, X, W, rfl, rfl, mulW b1 b4 (by omega), ?_⟩
    exact ⟨_, rfl, a, _, 1, .int Y, rfl, rfl, h1, rfl, _, rfl, c, _, 0, .int Z, rfl, rfl, h2, rfl, Y, Z, rfl, rfl, mulW b2 b3 (by omega), _, _, rfl, rfl, k⟩
/-- the turn of two pairs: an int of the sign that it must have -/
def spTurnP (K : PySem.W.Frag) : Sp := fun vs H Q _ => ∃ (u v : V) (b : Nat) (q r s t : Rat), vs = [u, v] ∧ Pr K b q r u H ∧ Pr K b s t v H ∧ b ≤ 1000 ∧ ∀ (n : Int) (H' : Hp), Ex H H' → (0 < n ↔ 0 < turnQ q r s t) → (n = 0 ↔ turnQ q r s t = 0) → Q (.int n) H'
theorem ok_turn_of_pairs (T : Txt K mg) : FnOk P w K mg base CX0 2 T.d_turn_of_pairs.a T.d_turn_of_pairs.fd ["one", "other"] (spTurnP K) := by
  refine T.d_turn_of_pairs.F.ok sc_turn_of_pairs (fun vs H Q E h => ?_) (fun cdv A outer s H vs Q E hr h => ?_)
  · obtain ⟨u, v, b, q, r, s, t, rfl, _⟩ := h
    rfl
  · obtain ⟨u, v, b, q, r, s, t, rfl, h1, h2, hb, k⟩ := h
    refine ⟨_, (pss_one (ps_ret (pe_call (ok_turn T) (hr.mono (by decide)) (by rfl) T.d_turn.g T.d_turn.F.kp T.d_turn.b .nil pass0 (pa_cons (pe_call (ok_arrow T) (hr.mono (by decide)) (by rfl) T.d_arrow.g T.d_arrow.F.kp T.d_arrow.b .nil pass0 (pa_cons (pv 0) pa_nil)) (pa_cons (pe_call (ok_arrow T) (hr.mono (by decide)) (by rfl) T.d_arrow.g T.d_arrow.F.kp T.d_arrow.b .nil pass0 (pa_cons (pv 1) pa_nil)) pa_nil))))), ?_⟩
    refine ⟨_, rfl, u, b, q, r, rfl, h1, hb, fun X Y g z H1 e1 g0 gx gy bX bY hS => ?_⟩
    refine ⟨_, rfl, v, b, s, t, rfl, h2.ex e1, hb, fun Z W g' z' H2 e2 g0' gz gw bZ bW hS' => ?_⟩
    refine ⟨z, z', X, Y, Z, W, b + b, rfl, ex_t e2 hS, hS', bX, bY, bZ, bW, by omega, ?_⟩
    obtain ⟨s1, s2⟩ := turn_sign g0 g0' gx gy gz gw
    exact k _ H2 (e1.trans e2) s1 s2
end
/-! ### tests that come out false -/
section
variable {K : PySem.W.Frag} {σ : L2.St} {H : Hp} {D : Ends} {t : TT} {tu tw : TS}
theorem yes_of {Q : Bool → Hp → Prop} (h : Q true H) : tYes σ H Q := h
theorem s_skip (h : EvT t σ H false) (k : ∀ H1, Ex H H1 → D.nx σ H1) : tIfS t tu tNext D σ H := s_if h (fun z => nomatch z) fun _ H1 e => k H1 e
theorem dec_ne {x y : Int} (h : x = y) : (!decide (V.int x = V.int y)) = false := by subst h; simp
theorem dec_neQ {x y : Rat} (h : x = y) : (!decide (x = y)) = false := by subst h; simp
theorem or_ff {a b : Bool} (h : a = false) (h' : b = false) : (a || b) = false := by subst h h'; rfl
/-- the test «two fractions differ» of two that are the same -/
theorem et_neF {ta tb : TE} {b c : Nat} {q r : Rat} (ha : EvP ta σ H (Fr K b q)) (hb : EvP tb σ H (Fr K c r)) (h : q = r) : EvT (tTest (tOp (rNeD K) ta tb)) σ H false := et_is (et_test (ev_neD ha hb)) (dec_neQ h)
theorem et_orF {t u : TT} (h1 : EvT t σ H false) (h2 : EvT u σ H false) : EvT (tOr t u) σ H false := et_is (et_or h1 fun _ => h2) rfl
/-- a written pair -/
theorem ep_lit {x y : Int} {q : Rat} {b : Nat} (e1 : x = q.num) (e2 : y = (q.den : Int)) (bd : Bd b q) : EvP (tTup (tCons (tC (.int x)) (tCons (tC (.int y)) tNil))) σ H (Fr K b q) := ep_tup ev_c ev_c e1 e2 bd
theorem ep_01 : EvP (tTup (tCons (tC (.int 0)) (tCons (tC (.int 1)) tNil))) σ H (Fr K 1 0) := ep_lit rfl rfl ⟨by decide, by decide⟩
end
/-! ### pairs of data, what the program does with them -/
def pq1 : PyData → Rat
  | .tuple [d, _] => frQ d
  | _ => 0
def pq2 : PyData → Rat
  | .tuple [_, d] => frQ d
  | _ => 0
theorem Dq.pr {K : PySem.W.Frag} {p : Addr} {H : Hp} {v : V} {d : PyData} {b : Nat} (h : Dq K p H v d) (hp : prB d = true) (b1 : Bd b (pq1 d)) (b2 : Bd b (pq2 d)) : Pr K b (pq1 d) (pq2 d) v H := by
  cases h with
  | @tup a xs ds hS hA =>
    match ds, hA, hp, b1, b2 with
    | [d1, d2], hA, hp, b1, b2 =>
      obtain ⟨h1, h2⟩ := Bool.and_eq_true_iff.mp hp
      cases hA with
      | cons q1 hA =>
        cases hA with
        | cons q2 hA =>
          cases hA
          exact ⟨a, _, _, rfl, hS, q1.fr h1 b1, q2.fr h2 b2⟩
    | [], _, hp, _, _ => cases hp
    | [_], _, hp, _, _ => cases hp
    | _ :: _ :: _ :: _, _, hp, _, _ => cases hp
  | _ => cases hp
section
variable {P : Program} {w : World} {K : PySem.W.Frag} {mg : Str → Option Value} {base : Heap}
def spCmp (K : PySem.W.Frag) (C : Addr) (f : Rat → Prop) [DecidablePred f] : Sp := fun vs H Q E => ∃ (p : Addr) (u v : V) (d e : PyData), vs = [u, v] ∧ Dq K p H u d ∧ Dq K p H v e ∧ Bd 100 (pq1 d) ∧ Bd 100 (pq2 d) ∧ Bd 100 (pq1 e) ∧ Bd 100 (pq2 e) ∧
  (prB d = false → Er C u H E) ∧ (prB d = true → prB e = false → Er C v H E) ∧ (prB d = true → prB e = true → ∀ H', Ex H H' → Q (.bl (decide (f (turnQ (pq1 d) (pq2 d) (pq1 e) (pq2 e))))) H')
theorem ok_is_ahead (T : Txt K mg) : FnOk P w K mg base (L2.CX P w) 5 T.d_is_ahead.a T.d_is_ahead.fd ["one", "other"] (spCmp K T.E_BadPair.C fun x => 0 < x) := by
  refine T.d_is_ahead.F.okX sc_is_ahead (fun vs H Q E h => ?_) (fun cdv A outer s H vs Q E hr h => ?_)
  · obtain ⟨p, u, v, d, e, rfl, _⟩ := h
    rfl
  · obtain ⟨p, u, v, d, e, rfl, hd, he, b1, b2, b3, b4, k1, k2, k3⟩ := h
    refine ⟨_, (pss_cons (ps_expr (pe_call (ok_require_pair T) (hr.mono (by decide)) (by rfl) T.d_require_pair.g T.d_require_pair.F.kp T.d_require_pair.b .nil (passes_call (takes_of rfl rfl rfl rfl) fun _ _ _ _ h => h) (pa_cons (pv 0) pa_nil)))
      (pss_cons (ps_expr (pe_call (ok_require_pair T) (hr.mono (by decide)) (by rfl) T.d_require_pair.g T.d_require_pair.F.kp T.d_require_pair.b .nil (passes_call (takes_of rfl rfl rfl rfl) fun _ _ _ _ h => h) (pa_cons (pv 1) pa_nil)))
      (pss_one (ps_ret (pe_cmpR op_gt (pe_call (ok_turn_of_pairs T) (hr.mono (by decide)) (by rfl) T.d_turn_of_pairs.g T.d_turn_of_pairs.F.kp T.d_turn_of_pairs.b .nil pass0 (pa_cons (pv 0) (pa_cons (pv 1) pa_nil))) pe_int (nomark _)))))), ?_⟩
    refine ⟨_, rfl, p, u, d, rfl, hd, fun w1 H1 e1 => ?_, fun z => k1 z⟩
    refine ⟨_, rfl, p, v, e, rfl, Dq.ex e1 _ _ he, fun w2 H2 e2 => ?_, fun z => (k2 w1 z).ex e1⟩
    refine ⟨_, rfl, _, rfl, u, v, 100, _, _, _, _, rfl, (Dq.ex (e1.trans e2) _ _ hd).pr w1 b1 b2, (Dq.ex (e1.trans e2) _ _ he).pr w2 b3 b4, by decide, fun n H3 e3 s1 s2 => ?_⟩
    refine ⟨n, 0, rfl, rfl, ?_⟩
    show Q (V.bl (decide (0 < n))) H3
    rw [decide_eq_decide.mpr s1]
    exact k3 w1 w2 H3 ((e1.trans e2).trans e3)
theorem ok_are_level (T : Txt K mg) : FnOk P w K mg base (L2.CX P w) 5 T.d_are_level.a T.d_are_level.fd ["one", "other"] (spCmp K T.E_BadPair.C fun x => x = 0) := by
  refine T.d_are_level.F.okX sc_are_level (fun vs H Q E h => ?_) (fun cdv A outer s H vs Q E hr h => ?_)
  · obtain ⟨p, u, v, d, e, rfl, _⟩ := h
    rfl
  · obtain ⟨p, u, v, d, e, rfl, hd, he, b1, b2, b3, b4, k1, k2, k3⟩ := h
    refine ⟨_, (pss_cons (ps_expr (pe_call (ok_require_pair T) (hr.mono (by decide)) (by rfl) T.d_require_pair.g T.d_require_pair.F.kp T.d_require_pair.b .nil (passes_call (takes_of rfl rfl rfl rfl) fun _ _ _ _ h => h) (pa_cons (pv 0) pa_nil)))
      (pss_cons (ps_expr (pe_call (ok_require_pair T) (hr.mono (by decide)) (by rfl) T.d_require_pair.g T.d_require_pair.F.kp T.d_require_pair.b .nil (passes_call (takes_of rfl rfl rfl rfl) fun _ _ _ _ h => h) (pa_cons (pv 1) pa_nil)))
      (pss_one (ps_ret (pe_cmpR op_eq (pe_call (ok_turn_of_pairs T) (hr.mono (by decide)) (by rfl) T.d_turn_of_pairs.g T.d_turn_of_pairs.F.kp T.d_turn_of_pairs.b .nil pass0 (pa_cons (pv 0) (pa_cons (pv 1) pa_nil))) pe_int (nomark _)))))), ?_⟩
    refine ⟨_, rfl, p, u, d, rfl, hd, fun w1 H1 e1 => ?_, fun z => k1 z⟩
    refine ⟨_, rfl, p, v, e, rfl, Dq.ex e1 _ _ he, fun w2 H2 e2 => ?_, fun z => (k2 w1 z).ex e1⟩
    refine ⟨_, rfl, _, rfl, u, v, 100, _, _, _, _, rfl, (Dq.ex (e1.trans e2) _ _ hd).pr w1 b1 b2, (Dq.ex (e1.trans e2) _ _ he).pr w2 b3 b4, by decide, fun n H3 e3 s1 s2 => ?_⟩
    refine ⟨rfl, ?_⟩
    rw [show decide (V.int n = V.int 0) = decide (turnQ (pq1 d) (pq2 d) (pq1 e) (pq2 e) = 0) from decide_eq_decide.mpr ((⟨fun z => V.int.inj z, fun z => congrArg V.int z⟩ : (V.int n = V.int 0) ↔ n = 0).trans s2)]
    exact k3 w1 w2 H3 ((e1.trans e2).trans e3)
def spMulP (K : PySem.W.Frag) : Sp := fun vs H Q _ => ∃ (u v : V) (q r s : Rat), vs = [u, v] ∧ Pr K 100 q r u H ∧ Fr K 100 s v H ∧ ∀ z H', Ex H H' → Pr K 201 (q * s) (r * s) z H' → Q z H'
theorem ok_multiply_pair (T : Txt K mg) : FnOk P w K mg base CX0 3 T.d_multiply_pair.a T.d_multiply_pair.fd ["pair", "share"] (spMulP K) := by
  refine T.d_multiply_pair.F.ok sc_multiply_pair (fun vs H Q E h => ?_) (fun cdv A outer s H vs Q E hr h => ?_)
  · obtain ⟨u, v, q, r, s, rfl, _⟩ := h
    rfl
  · obtain ⟨u, v, q, r, s, rfl, ⟨a, x, y, rfl, hS, f, g⟩, hs, k⟩ := h
    refine ⟨_, (pss_one (ps_ret (pe_tup (pa_cons (pe_call (ok_multiply T) (hr.mono (by decide)) (by rfl) T.d_multiply.g T.d_multiply.F.kp T.d_multiply.b .nil pass0 (pa_cons (pe_ix ix_tup (pv 0) pe_int (fun _ _ => rfl)) (pa_cons (pv 1) pa_nil))) (pa_cons (pe_call (ok_multiply T) (hr.mono (by decide)) (by rfl) T.d_multiply.g T.d_multiply.F.kp T.d_multiply.b .nil pass0 (pa_cons (pe_ix ix_tup (pv 0) pe_int (fun _ _ => rfl)) (pa_cons (pv 1) pa_nil))) pa_nil))))), ?_⟩
    refine ⟨_, rfl, a, _, 0, x, rfl, rfl, hS, rfl, _, rfl, x, v, 100, 100, q, s, rfl, f, hs, by decide, trivial, fun z1 H1 e1 f1 => ?_⟩
    refine ⟨_, rfl, a, _, 1, y, rfl, rfl, ex_t e1 hS, rfl, _, rfl, y, v, 100, 100, r, s, rfl, g.ex e1, hs.ex e1, by decide, trivial, fun z2 H2 e2 f2 => ?_⟩
    refine ⟨by show 2 ≤ sizeLine; decide, fun t ht => ?_⟩
    have x3 := Ex.new (o := .tup [z1, z2]) ht
    exact k _ _ ((e1.trans e2).trans x3) ⟨t, z1, z2, rfl, SqT.of upd_same, f1.ex (e2.trans x3), f2.ex x3⟩
def spSpr (K : PySem.W.Frag) (C B : Addr) : Sp := fun vs H Q E => ∃ (p : Addr) (u v : V) (d e : PyData), vs = [u, v] ∧ Dq K p H u d ∧ Dq K p H v e ∧ Bd 100 (pq1 d) ∧ Bd 100 (pq2 d) ∧ Bd 100 (frQ e) ∧
  (prB d = false → Er C u H E) ∧ (prB d = true → frB e = false → Er B v H E) ∧ (prB d = true → frB e = true → ∀ z H', Ex H H' → Pr K 201 (pq1 d * frQ e) (pq2 d * frQ e) z H' → Q z H')
theorem ok_spread (T : Txt K mg) : FnOk P w K mg base (L2.CX P w) 5 T.d_spread.a T.d_spread.fd ["pair", "share"] (spSpr K T.E_BadPair.C T.E_BadFraction.C) := by
  refine T.d_spread.F.okX sc_spread (fun vs H Q E h => ?_) (fun cdv A outer s H vs Q E hr h => ?_)
  · obtain ⟨p, u, v, d, e, rfl, _⟩ := h
    rfl
  · obtain ⟨p, u, v, d, e, rfl, hd, he, b1, b2, b3, k1, k2, k3⟩ := h
    refine ⟨_, (pss_cons (ps_expr (pe_call (ok_require_pair T) (hr.mono (by decide)) (by rfl) T.d_require_pair.g T.d_require_pair.F.kp T.d_require_pair.b .nil (passes_call (takes_of rfl rfl rfl rfl) fun _ _ _ _ h => h) (pa_cons (pv 0) pa_nil)))
      (pss_cons (ps_expr (pe_call (ok_require_fraction T) (hr.mono (by decide)) (by rfl) T.d_require_fraction.g T.d_require_fraction.F.kp T.d_require_fraction.b .nil (passes_call (takes_of rfl rfl rfl rfl) fun _ _ _ _ h => h) (pa_cons (pv 1) pa_nil)))
      (pss_one (ps_ret (pe_call (ok_multiply_pair T) (hr.mono (by decide)) (by rfl) T.d_multiply_pair.g T.d_multiply_pair.F.kp T.d_multiply_pair.b .nil pass0 (pa_cons (pv 0) (pa_cons (pv 1) pa_nil))))))), ?_⟩
    refine ⟨_, rfl, p, u, d, rfl, hd, fun w1 H1 e1 => ?_, fun z => k1 z⟩
    refine ⟨_, rfl, p, v, e, rfl, Dq.ex e1 _ _ he, fun w2 H2 e2 => ?_, fun z => (k2 w1 z).ex e1⟩
    exact ⟨_, rfl, _, rfl, u, v, _, _, _, rfl, (Dq.ex (e1.trans e2) _ _ hd).pr w1 b1 b2, (Dq.ex (e1.trans e2) _ _ he).fr w2 b3, fun z H3 e3 f => k3 w1 w2 z H3 ((e1.trans e2).trans e3) f⟩
end
/-! ### the two lists of a sum -/
section
variable {K : PySem.W.Frag}
def SrcP (K : PySem.W.Frag) (b : Nat) (H : Hp) (xs : List V) (qs : List (Rat × Rat)) : Prop := xs.length = qs.length ∧ ∀ (i : Nat) (x : V), xs[i]? = some x → ∃ q r, qs[i]? = some (q, r) ∧ Pr K b q r x H
theorem SrcP.ex {b : Nat} {H H' : Hp} {xs : List V} {qs : List (Rat × Rat)} (e : Ex H H') (h : SrcP K b H xs qs) : SrcP K b H' xs qs := ⟨h.1, fun i x hx => by
  obtain ⟨q, r, hq, hp⟩ := h.2 i x hx
  exact ⟨q, r, hq, hp.ex e⟩⟩
def Pv1 (K : PySem.W.Frag) (b : Nat) (qs : List (Rat × Rat)) (H0 : Hp) (D : Addr) (j : Nat) (H : Hp) : Prop := Ex H0 H ∧ ∃ zs : Qs, H D = some (.lst (zs.map fun z => V.ref z.1)) ∧ zs.map (fun z => z.2) = (qs.take j).map (fun q => q.1) ∧ ∀ z ∈ zs, SqT K H0 z.1 [.int z.2.num, .int (z.2.den : Int)] ∧ Bd b z.2
theorem step1 {u : V} {xs : List V} {qs : List (Rat × Rat)} {b : Nat} {H0 : Hp} {D : Addr} (hD : H0 D = none) (src : SrcP K b H0 xs qs) (hl : xs.length ≤ 900) : ∀ i x H, xs[i]? = some x → Pv1 K b qs H0 D i H →
    (gTup K 2 (gCons (gName 1) (gCons (gName 2) gNil))) x (wipe [some u, none, none, none] [1, 2]) H fun σ2 H2 => wipe σ2 [1, 2] = wipe [some u, none, none, none] [1, 2] ∧ tYes σ2 H2 fun c H3 =>
      if c = true then tVar 1 σ2 H3 fun y H4 => ∃ acc, H4 D = some (.lst acc) ∧ acc.length < sizeLine ∧ Pv1 K b qs H0 D (i + 1) (upd H4 D (.lst (acc ++ [y]))) else Pv1 K b qs H0 D (i + 1) H3 := by
  rintro i x H hx ⟨ex, zs, hz, hm, hf⟩
  obtain ⟨q, r, hq, a, vx, vy, rfl, hS, f, g⟩ := src.2 i x hx
  refine ⟨a, _, rfl, ex_t ex hS, rfl, _, _, rfl, _, _, rfl, rfl, rfl, ?_⟩
  refine yes_of ?_
  rw [if_pos rfl]
  obtain ⟨pf, rfl, sf, bf⟩ := f
  have il : i < xs.length := (List.getElem?_eq_some_iff.mp hx).1
  have zl : zs.length ≤ i := by
    have := congrArg List.length hm
    rw [List.length_map, List.length_map, List.length_take] at this
    omega
  refine ⟨_, rfl, _, hz, small1000 (by rw [List.length_map]; omega), Ex.mut ex hD, zs ++ [(pf, q)], ?_, ?_, fun z hz' => ?_⟩
  · rw [upd_same, List.map_append]
    rfl
  · rw [List.map_append, hm, List.take_succ, hq, List.map_append]
    rfl
  · rcases List.mem_append.mp hz' with h | h
    · exact hf z h
    · rw [List.mem_singleton] at h
      subst h
      exact ⟨sf, bf⟩
theorem comp1L {a : Addr} {xs : List V} {qs : List (Rat × Rat)} {b : Nat} {H : Hp} (hS : SqL K H a xs) (src : SrcP K b H xs qs) (hl : xs.length ≤ 900) :
    EvP (tLc (iList K (tVar 0)) (gTup K 2 (gCons (gName 1) (gCons (gName 2) gNil))) tYes (tVar 1) [1, 2]) [some (.ref a), none, none, none] H (fun v H' => ∃ (D : Addr) (zs : Qs), v = .ref D ∧ PrsAt K H' D (prs zs) ∧ (∀ z ∈ zs, Bd b z.2) ∧ zs.map (fun z => z.2) = qs.map (fun q => q.1)) := by
  intro H1 e Q k
  refine ⟨.ref a, rfl, a, rfl, ⟨_, ex_l e hS⟩, fun D nD => ?_⟩
  have s1 := src.ex e
  refine lc_list (K := K) (a := a) (xs := xs) (Pv1 K b qs H1 D) ⟨Ex.new nD, [], upd_same, rfl, fun _ z => nomatch z⟩ (fun i H2 _ h => ex_l h.1 (ex_l e hS)) (step1 nD s1 hl) ?_
  rintro H2 ⟨ex, zs, hz, hm, hf⟩
  rw [src.1, List.take_length] at hm
  refine k _ H2 ex ⟨D, zs, rfl, ⟨SqL.of ?_, fun p hp => ?_⟩, fun z h => (hf z h).2, hm⟩
  · rw [hz, prs, List.map_map]
    rfl
  · obtain ⟨z, h, rfl⟩ := List.mem_map.mp hp
    exact ex_t ex (hf z h).1
theorem comp1T {a : Addr} {xs : List V} {qs : List (Rat × Rat)} {b : Nat} {H : Hp} (hS : SqT K H a xs) (src : SrcP K b H xs qs) (hl : xs.length ≤ 900) :
    EvP (tLc (iTup K (tVar 0)) (gTup K 2 (gCons (gName 1) (gCons (gName 2) gNil))) tYes (tVar 1) [1, 2]) [some (.ref a), none, none, none] H (fun v H' => ∃ (D : Addr) (zs : Qs), v = .ref D ∧ PrsAt K H' D (prs zs) ∧ (∀ z ∈ zs, Bd b z.2) ∧ zs.map (fun z => z.2) = qs.map (fun q => q.1)) := by
  intro H1 e Q k
  refine ⟨.ref a, rfl, a, rfl, ⟨_, ex_t e hS⟩, fun D nD => ?_⟩
  have s1 := src.ex e
  refine lc_tup (K := K) (a := a) (xs := xs) (Pv1 K b qs H1 D) ⟨Ex.new nD, [], upd_same, rfl, fun _ z => nomatch z⟩ (fun i H2 _ h => ex_t h.1 (ex_t e hS)) (step1 nD s1 hl) ?_
  rintro H2 ⟨ex, zs, hz, hm, hf⟩
  rw [src.1, List.take_length] at hm
  refine k _ H2 ex ⟨D, zs, rfl, ⟨SqL.of ?_, fun p hp => ?_⟩, fun z h => (hf z h).2, hm⟩
  · rw [hz, prs, List.map_map]
    rfl
  · obtain ⟨z, h, rfl⟩ := List.mem_map.mp hp
    exact ex_t ex (hf z h).1
def Pv2 (K : PySem.W.Frag) (b : Nat) (qs : List (Rat × Rat)) (H0 : Hp) (D : Addr) (j : Nat) (H : Hp) : Prop := Ex H0 H ∧ ∃ zs : Qs, H D = some (.lst (zs.map fun z => V.ref z.1)) ∧ zs.map (fun z => z.2) = (qs.take j).map (fun q => q.2) ∧ ∀ z ∈ zs, SqT K H0 z.1 [.int z.2.num, .int (z.2.den : Int)] ∧ Bd b z.2
theorem step2 {u : V} {xs : List V} {qs : List (Rat × Rat)} {b : Nat} {H0 : Hp} {D : Addr} (hD : H0 D = none) (src : SrcP K b H0 xs qs) (hl : xs.length ≤ 900) : ∀ i x H, xs[i]? = some x → Pv2 K b qs H0 D i H →
    (gTup K 2 (gCons (gName 2) (gCons (gName 3) gNil))) x (wipe [some u, none, none, none] [2, 3]) H fun σ2 H2 => wipe σ2 [2, 3] = wipe [some u, none, none, none] [2, 3] ∧ tYes σ2 H2 fun c H3 =>
      if c = true then tVar 3 σ2 H3 fun y H4 => ∃ acc, H4 D = some (.lst acc) ∧ acc.length < sizeLine ∧ Pv2 K b qs H0 D (i + 1) (upd H4 D (.lst (acc ++ [y]))) else Pv2 K b qs H0 D (i + 1) H3 := by
  rintro i x H hx ⟨ex, zs, hz, hm, hf⟩
  obtain ⟨q, r, hq, a, vx, vy, rfl, hS, f, g⟩ := src.2 i x hx
  refine ⟨a, _, rfl, ex_t ex hS, rfl, _, _, rfl, _, _, rfl, rfl, rfl, ?_⟩
  refine yes_of ?_
  rw [if_pos rfl]
  obtain ⟨pf, rfl, sf, bf⟩ := g
  have il : i < xs.length := (List.getElem?_eq_some_iff.mp hx).1
  have zl : zs.length ≤ i := by
    have := congrArg List.length hm
    rw [List.length_map, List.length_map, List.length_take] at this
    omega
  refine ⟨_, rfl, _, hz, small1000 (by rw [List.length_map]; omega), Ex.mut ex hD, zs ++ [(pf, r)], ?_, ?_, fun z hz' => ?_⟩
  · rw [upd_same, List.map_append]
    rfl
  · rw [List.map_append, hm, List.take_succ, hq, List.map_append]
    rfl
  · rcases List.mem_append.mp hz' with h | h
    · exact hf z h
    · rw [List.mem_singleton] at h
      subst h
      exact ⟨sf, bf⟩
theorem comp2L {a : Addr} {xs : List V} {qs : List (Rat × Rat)} {b : Nat} {H : Hp} (hS : SqL K H a xs) (src : SrcP K b H xs qs) (hl : xs.length ≤ 900) :
    EvP (tLc (iList K (tVar 0)) (gTup K 2 (gCons (gName 2) (gCons (gName 3) gNil))) tYes (tVar 3) [2, 3]) [some (.ref a), none, none, none] H (fun v H' => ∃ (D : Addr) (zs : Qs), v = .ref D ∧ PrsAt K H' D (prs zs) ∧ (∀ z ∈ zs, Bd b z.2) ∧ zs.map (fun z => z.2) = qs.map (fun q => q.2)) := by
  intro H1 e Q k
  refine ⟨.ref a, rfl, a, rfl, ⟨_, ex_l e hS⟩, fun D nD => ?_⟩
  have s1 := src.ex e
  refine lc_list (K := K) (a := a) (xs := xs) (Pv2 K b qs H1 D) ⟨Ex.new nD, [], upd_same, rfl, fun _ z => nomatch z⟩ (fun i H2 _ h => ex_l h.1 (ex_l e hS)) (step2 nD s1 hl) ?_
  rintro H2 ⟨ex, zs, hz, hm, hf⟩
  rw [src.1, List.take_length] at hm
  refine k _ H2 ex ⟨D, zs, rfl, ⟨SqL.of ?_, fun p hp => ?_⟩, fun z h => (hf z h).2, hm⟩
  · rw [hz, prs, List.map_map]
    rfl
  · obtain ⟨z, h, rfl⟩ := List.mem_map.mp hp
    exact ex_t ex (hf z h).1
theorem comp2T {a : Addr} {xs : List V} {qs : List (Rat × Rat)} {b : Nat} {H : Hp} (hS : SqT K H a xs) (src : SrcP K b H xs qs) (hl : xs.length ≤ 900) :
    EvP (tLc (iTup K (tVar 0)) (gTup K 2 (gCons (gName 2) (gCons (gName 3) gNil))) tYes (tVar 3) [2, 3]) [some (.ref a), none, none, none] H (fun v H' => ∃ (D : Addr) (zs : Qs), v = .ref D ∧ PrsAt K H' D (prs zs) ∧ (∀ z ∈ zs, Bd b z.2) ∧ zs.map (fun z => z.2) = qs.map (fun q => q.2)) := by
  intro H1 e Q k
  refine ⟨.ref a, rfl, a, rfl, ⟨_, ex_t e hS⟩, fun D nD => ?_⟩
  have s1 := src.ex e
  refine lc_tup (K := K) (a := a) (xs := xs) (Pv2 K b qs H1 D) ⟨Ex.new nD, [], upd_same, rfl, fun _ z => nomatch z⟩ (fun i H2 _ h => ex_t h.1 (ex_t e hS)) (step2 nD s1 hl) ?_
  rintro H2 ⟨ex, zs, hz, hm, hf⟩
  rw [src.1, List.take_length] at hm
  refine k _ H2 ex ⟨D, zs, rfl, ⟨SqL.of ?_, fun p hp => ?_⟩, fun z h => (hf z h).2, hm⟩
  · rw [hz, prs, List.map_map]
    rfl
  · obtain ⟨z, h, rfl⟩ := List.mem_map.mp hp
    exact ex_t ex (hf z h).1
end
/-! ### total -/
theorem DqAll.at {K : PySem.W.Frag} {p : Addr} {H : Hp} : ∀ {vs : List V} {ds : List PyData}, DqAll K p H vs ds → ∀ (i : Nat) (x : V), vs[i]? = some x → ∃ d, ds[i]? = some d ∧ Dq K p H x d
  | _, _, .nil, i, x, h => by cases i <;> cases h
  | _, _, .cons (d := d) h hs, 0, x, e => by
    cases e
    exact ⟨d, rfl, h⟩
  | _, _, .cons h hs, i + 1, x, e => hs.at i x e
section
variable {K : PySem.W.Frag} {T : Addr} {H H' : Hp}
theorem tab_ne (ht : GxR.TabG H T) {a : Addr} {o : HO} (h : H a = some o) (ho : ∀ ps, o ≠ .tbl ps) : a ≠ T := by
  rintro rfl
  obtain ⟨ps, e, _⟩ := ht
  rw [h] at e
  exact ho ps (Option.some.inj e)
theorem tb_l {a : Addr} {xs : List V} (ht : GxR.TabG H T) (e : ExB T H H') (h : SqL K H a xs) : SqL K H' a xs := by
  rcases h with (h | ⟨o, h⟩) | h
  · exact .inl (.inl (e a _ (tab_ne ht h fun _ z => nomatch z) h))
  · exact .inl (.inr ⟨o, e a _ (tab_ne ht h fun _ z => nomatch z) h⟩)
  · exact .inr h
theorem tb_t {a : Addr} {xs : List V} (ht : GxR.TabG H T) (e : ExB T H H') (h : SqT K H a xs) : SqT K H' a xs := by
  rcases h with (h | ⟨o, h⟩) | h
  · exact .inl (.inl (e a _ (tab_ne ht h fun _ z => nomatch z) h))
  · exact .inl (.inr ⟨o, e a _ (tab_ne ht h fun _ z => nomatch z) h⟩)
  · exact .inr h
theorem tb_f {b : Nat} {q : Rat} {v : V} (ht : GxR.TabG H T) (e : ExB T H H') (h : Fr K b q v H) : Fr K b q v H' := by
  obtain ⟨a, rfl, h, x⟩ := h
  exact ⟨a, rfl, tb_t ht e h, x⟩
theorem tb_p {b : Nat} {q r : Rat} {v : V} (ht : GxR.TabG H T) (e : ExB T H H') (h : Pr K b q r v H) : Pr K b q r v H' := by
  obtain ⟨a, x, y, rfl, h, f, g⟩ := h
  exact ⟨a, x, y, rfl, tb_t ht e h, tb_f ht e f, tb_f ht e g⟩
theorem tb_s {b : Nat} {xs : List V} {qs : List (Rat × Rat)} (ht : GxR.TabG H T) (e : ExB T H H') (h : SrcP K b H xs qs) : SrcP K b H' xs qs := ⟨h.1, fun i x hx => by
  obtain ⟨q, r, hq, hp⟩ := h.2 i x hx
  exact ⟨q, r, hq, tb_p ht e hp⟩⟩
theorem tab_ex (ht : GxR.TabG H T) (e : Ex H H') : GxR.TabG H' T := by
  obtain ⟨ps, h1, h2⟩ := ht
  exact ⟨ps, e _ _ h1, h2⟩
end
section
variable {P : Program} {w : World} {K : PySem.W.Frag} {mg : Str → Option Value} {base : Heap}
def bitsP (b n : Nat) : Nat := b * n + b + n + 1
def spAddP (K : PySem.W.Frag) (T : Addr) : Sp := fun vs H Q _ => ∃ (a : Addr) (xs : List V) (qs : List (Rat × Rat)) (b : Nat), vs = [.ref a] ∧ (SqL K H a xs ∨ SqT K H a xs) ∧ SrcP K b H xs qs ∧ xs.length ≤ 900 ∧ bitsP b qs.length ≤ 3000 ∧ GxR.TabG H T ∧
  ∀ z H', ExB T H H' → GxR.TabG H' T → Pr K (bitsP b qs.length) (qs.map fun q => q.1).sum (qs.map fun q => q.2).sum z H' → Q z H'
theorem sumQ_eq {zs : Qs} {l : List Rat} (h : zs.map (fun z => z.2) = l) : sumQ zs = l.sum := by
  unfold sumQ
  rw [h]
theorem len_eq {zs : Qs} {qs : List (Rat × Rat)} {f : Rat × Rat → Rat} (h : zs.map (fun z => z.2) = qs.map f) : zs.length = qs.length := by
  have := congrArg List.length h
  rwa [List.length_map, List.length_map] at this
theorem s_two {ta tb : TE} {sp : Sp} {E E' : XK} {D : Ends} {σ : L2.St} {H : Hp} (h : ta σ H fun v1 H1 => sp [v1] H1 (fun r1 H2 => tb σ H2 fun v2 H3 => sp [v2] H3 (fun r2 H4 => 2 ≤ sizeLine ∧ ∀ t, H4 t = none → D.rt (.ref t) (upd H4 t (.tup [r1, r2]))) E') E) :
    tRet (tTup (tCons (tCall sp [] E (tCons ta tNil)) (tCons (tCall sp [] E' (tCons tb tNil)) tNil))) D σ H := h
theorem ok_add_pairs (T : Txt K mg) (tb : GxR.TabB base mg T.c_add_all T.P_add_all) : FnOk P w K mg base CX0 3 T.d_add_pairs.a T.d_add_pairs.fd ["pairs"] (spAddP K T.P_add_all) := by
  refine T.d_add_pairs.F.ok sc_add_pairs (fun vs H Q E h => ?_) (fun cdv A outer s H vs Q E hr h => ?_)
  · obtain ⟨a, xs, qs, b, rfl, _⟩ := h
    rfl
  · obtain ⟨a, xs, qs, b, rfl, hS, src, hl, hb, ht, k⟩ := h
    rcases hS with hS | hS
    · refine ⟨_, (pss_one (ps_ret (pe_tup (pa_cons (pe_call (ok_add_all T tb) (hr.mono (by decide)) (by rfl) T.d_add_all.g T.d_add_all.F.kp T.d_add_all.b .nil pass0 (pa_cons (pe_lc (own := [("pay", 1), ("_", 2)]) (g := gTup K 2 (gCons (gName 1) (gCons (gName 2) gNil))) (tt := tYes) rfl sc_add_pairs.nd (pi_list (pv 0)) (blkOk_by (own := [("pay", 1), ("_", 2)]) (N := n_add_pairs) (sc := defScope s_add_pairs) (by decide +kernel)) (fun _ _ _ _ _ => (pg_tup rfl (pgs_cons (pg_name (i := 1) sc_add_pairs.nd rfl (Or.inl rfl)) (pgs_cons (pg_name (i := 2) sc_add_pairs.nd rfl (Or.inl rfl)) pgs_nil)))) (fun _ _ _ _ _ => pts_nil) (fun _ _ _ _ _ => (pv 1))) pa_nil)) (pa_cons (pe_call (ok_add_all T tb) (hr.mono (by decide)) (by rfl) T.d_add_all.g T.d_add_all.F.kp T.d_add_all.b .nil pass0 (pa_cons (pe_lc (own := [("_", 2), ("fall", 3)]) (g := gTup K 2 (gCons (gName 2) (gCons (gName 3) gNil))) (tt := tYes) rfl sc_add_pairs.nd (pi_list (pv 0)) (blkOk_by (own := [("_", 2), ("fall", 3)]) (N := n_add_pairs) (sc := defScope s_add_pairs) (by decide +kernel)) (fun _ _ _ _ _ => (pg_tup rfl (pgs_cons (pg_name (i := 2) sc_add_pairs.nd rfl (Or.inl rfl)) (pgs_cons (pg_name (i := 3) sc_add_pairs.nd rfl (Or.inl rfl)) pgs_nil)))) (fun _ _ _ _ _ => pts_nil) (fun _ _ _ _ _ => (pv 3))) pa_nil)) pa_nil))))), ?_⟩
      refine s_two ?_
      refine (comp1L (b := b) hS src hl) H (Ex.refl H) _ fun v1 H1 e1 h1 => ?_
      obtain ⟨D1, z1, rfl, p1, b1, m1⟩ := h1
      have n1 := len_eq m1
      have t1 := tab_ex ht e1
      refine ⟨D1, z1, b, rfl, p1, b1, by rw [n1]; exact hb, t1, fun r1 H2 e2 t2 f1 => ?_⟩
      rw [n1, sumQ_eq m1] at f1
      refine (comp2L (b := b) (tb_l t1 e2 (ex_l e1 hS)) (tb_s t1 e2 (src.ex e1)) hl) H2 (Ex.refl H2) _ fun v2 H3 e3 h2 => ?_
      obtain ⟨D2, z2, rfl, p2, b2, m2⟩ := h2
      have n2 := len_eq m2
      have t3 := tab_ex t2 e3
      refine ⟨D2, z2, b, rfl, p2, b2, by rw [n2]; exact hb, t3, fun r2 H4 e4 t4 f2 => ?_⟩
      rw [n2, sumQ_eq m2] at f2
      refine ⟨by show 2 ≤ sizeLine; decide, fun t nt => ?_⟩
      have x5 := Ex.new (o := .tup [r1, r2]) nt
      exact k _ _ ((((Ex.b e1).trans e2).trans (Ex.b e3)).trans (e4.trans (Ex.b x5))) (tab_ex t4 x5) ⟨t, r1, r2, rfl, SqT.of upd_same, (tb_f t3 e4 (f1.ex e3)).ex x5, f2.ex x5⟩
    · refine ⟨_, (pss_one (ps_ret (pe_tup (pa_cons (pe_call (ok_add_all T tb) (hr.mono (by decide)) (by rfl) T.d_add_all.g T.d_add_all.F.kp T.d_add_all.b .nil pass0 (pa_cons (pe_lc (own := [("pay", 1), ("_", 2)]) (g := gTup K 2 (gCons (gName 1) (gCons (gName 2) gNil))) (tt := tYes) rfl sc_add_pairs.nd (pi_tup (pv 0)) (blkOk_by (own := [("pay", 1), ("_", 2)]) (N := n_add_pairs) (sc := defScope s_add_pairs) (by decide +kernel)) (fun _ _ _ _ _ => (pg_tup rfl (pgs_cons (pg_name (i := 1) sc_add_pairs.nd rfl (Or.inl rfl)) (pgs_cons (pg_name (i := 2) sc_add_pairs.nd rfl (Or.inl rfl)) pgs_nil)))) (fun _ _ _ _ _ => pts_nil) (fun _ _ _ _ _ => (pv 1))) pa_nil)) (pa_cons (pe_call (ok_add_all T tb) (hr.mono (by decide)) (by rfl) T.d_add_all.g T.d_add_all.F.kp T.d_add_all.b .nil pass0 (pa_cons (pe_lc (own := [("_", 2), ("fall", 3)]) (g := gTup K 2 (gCons (gName 2) (gCons (gName 3) gNil))) (tt := tYes) rfl sc_add_pairs.nd (pi_tup (pv 0)) (blkOk_by (own := [("_", 2), ("fall", 3)]) (N := n_add_pairs) (sc := defScope s_add_pairs) (by decide +kernel)) (fun _ _ _ _ _ => (pg_tup rfl (pgs_cons (pg_name (i := 2) sc_add_pairs.nd rfl (Or.inl rfl)) (pgs_cons (pg_name (i := 3) sc_add_pairs.nd rfl (Or.inl rfl)) pgs_nil)))) (fun _ _ _ _ _ => pts_nil) (fun _ _ _ _ _ => (pv 3))) pa_nil)) pa_nil))))), ?_⟩
      refine s_two ?_
      refine (comp1T (b := b) hS src hl) H (Ex.refl H) _ fun v1 H1 e1 h1 => ?_
      obtain ⟨D1, z1, rfl, p1, b1, m1⟩ := h1
      have n1 := len_eq m1
      have t1 := tab_ex ht e1
      refine ⟨D1, z1, b, rfl, p1, b1, by rw [n1]; exact hb, t1, fun r1 H2 e2 t2 f1 => ?_⟩
      rw [n1, sumQ_eq m1] at f1
      refine (comp2T (b := b) (tb_t t1 e2 (ex_t e1 hS)) (tb_s t1 e2 (src.ex e1)) hl) H2 (Ex.refl H2) _ fun v2 H3 e3 h2 => ?_
      obtain ⟨D2, z2, rfl, p2, b2, m2⟩ := h2
      have n2 := len_eq m2
      have t3 := tab_ex t2 e3
      refine ⟨D2, z2, b, rfl, p2, b2, by rw [n2]; exact hb, t3, fun r2 H4 e4 t4 f2 => ?_⟩
      rw [n2, sumQ_eq m2] at f2
      refine ⟨by show 2 ≤ sizeLine; decide, fun t nt => ?_⟩
      have x5 := Ex.new (o := .tup [r1, r2]) nt
      exact k _ _ ((((Ex.b e1).trans e2).trans (Ex.b e3)).trans (e4.trans (Ex.b x5))) (tab_ex t4 x5) ⟨t, r1, r2, rfl, SqT.of upd_same, (tb_f t3 e4 (f1.ex e3)).ex x5, f2.ex x5⟩
def spReqs (K : PySem.W.Frag) (C : Addr) : Sp := fun vs H Q E => ∃ (p a : Addr) (xs : List V) (ds : List PyData), vs = [.ref a] ∧ (SqL K H a xs ∨ SqT K H a xs) ∧ DqAll K p H xs ds ∧
  ((∀ d ∈ ds, prB d = true) → ∀ H', Ex H H' → Q .non H') ∧ (∀ (i : Nat) (x : V) (d : PyData), xs[i]? = some x → ds[i]? = some d → prB d = false → (∀ j d', j < i → ds[j]? = some d' → prB d' = true) → Er C x H E)
theorem ok_require_pairs (T : Txt K mg) : FnOk P w K mg base (L2.CX P w) 5 T.d_require_pairs.a T.d_require_pairs.fd ["values"] (spReqs K T.E_BadPair.C) := by
  refine T.d_require_pairs.F.okX sc_require_pairs (fun vs H Q E h => ?_) (fun cdv A outer s H vs Q E hr h => ?_)
  · obtain ⟨p, a, xs, ds, rfl, _⟩ := h
    rfl
  · obtain ⟨p, a, xs, ds, rfl, hS, hA, k1, k2⟩ := h
    rcases hS with hS | hS
    · refine ⟨_, (pss_one (ps_for (passes_of rfl) rfl (pi_list (pv 0)) (pg_name (i := 1) sc_require_pairs.nd rfl (Or.inl rfl)) (pss_one (ps_expr (pe_call (ok_require_pair T) (hr.mono (by decide)) (by rfl) T.d_require_pair.g T.d_require_pair.F.kp T.d_require_pair.b .nil (passes_call (takes_of rfl rfl rfl rfl) fun _ _ _ _ h => h) (pa_cons (pv 1) pa_nil)))))), ?_⟩
      refine ⟨.ref a, rfl, a, rfl, ⟨_, hS⟩, ?_⟩
      refine for_list (K := K) (a := a) (xs := xs) (fun i σ H' => (∃ s1, σ = [some (.ref a), s1]) ∧ Ex H H' ∧ ∀ (j : Nat) (d : PyData), j < i → ds[j]? = some d → prB d = true) ⟨⟨none, rfl⟩, Ex.refl H, fun j d hj => absurd hj (by omega)⟩ (fun i σ H' _ h => ex_l h.2.1 hS) ?_ ?_
      · rintro i x σ H1 hx ⟨⟨s1, rfl⟩, e1, pre⟩
        obtain ⟨d, hd, q⟩ := hA.at i x hx
        refine n_name ?_
        refine ⟨x, rfl, p, x, d, rfl, Dq.ex e1 _ _ q, fun z H2 e2 => ⟨⟨_, rfl⟩, e1.trans e2, fun j d' hj hd' => ?_⟩, fun z => (k2 i x d hx hd z pre).ex e1⟩
        by_cases h : j < i
        · exact pre j d' h hd'
        · obtain rfl : j = i := by omega
          rw [hd] at hd'
          cases hd'
          exact z
      · rintro σ H1 ⟨_, e1, pre⟩
        refine k1 (fun d hd => ?_) H1 e1
        obtain ⟨j, hj, e⟩ := List.getElem_of_mem hd
        exact pre j d (by rw [hA.len]; exact hj) (by rw [List.getElem?_eq_getElem hj, e])
    · refine ⟨_, (pss_one (ps_for (passes_of rfl) rfl (pi_tup (pv 0)) (pg_name (i := 1) sc_require_pairs.nd rfl (Or.inl rfl)) (pss_one (ps_expr (pe_call (ok_require_pair T) (hr.mono (by decide)) (by rfl) T.d_require_pair.g T.d_require_pair.F.kp T.d_require_pair.b .nil (passes_call (takes_of rfl rfl rfl rfl) fun _ _ _ _ h => h) (pa_cons (pv 1) pa_nil)))))), ?_⟩
      refine ⟨.ref a, rfl, a, rfl, ⟨_, hS⟩, ?_⟩
      refine for_tup (K := K) (a := a) (xs := xs) (fun i σ H' => (∃ s1, σ = [some (.ref a), s1]) ∧ Ex H H' ∧ ∀ (j : Nat) (d : PyData), j < i → ds[j]? = some d → prB d = true) ⟨⟨none, rfl⟩, Ex.refl H, fun j d hj => absurd hj (by omega)⟩ (fun i σ H' _ h => ex_t h.2.1 hS) ?_ ?_
      · rintro i x σ H1 hx ⟨⟨s1, rfl⟩, e1, pre⟩
        obtain ⟨d, hd, q⟩ := hA.at i x hx
        refine n_name ?_
        refine ⟨x, rfl, p, x, d, rfl, Dq.ex e1 _ _ q, fun z H2 e2 => ⟨⟨_, rfl⟩, e1.trans e2, fun j d' hj hd' => ?_⟩, fun z => (k2 i x d hx hd z pre).ex e1⟩
        by_cases h : j < i
        · exact pre j d' h hd'
        · obtain rfl : j = i := by omega
          rw [hd] at hd'
          cases hd'
          exact z
      · rintro σ H1 ⟨_, e1, pre⟩
        refine k1 (fun d hd => ?_) H1 e1
        obtain ⟨j, hj, e⟩ := List.getElem_of_mem hd
        exact pre j d (by rw [hA.len]; exact hj) (by rw [List.getElem?_eq_getElem hj, e])
def qsOf (ds : List PyData) : List (Rat × Rat) := ds.map fun d => (pq1 d, pq2 d)
theorem src_of {p : Addr} {H : Hp} {b : Nat} {xs : List V} {ds : List PyData} (h : DqAll K p H xs ds) (ok : ∀ d ∈ ds, prB d = true) (bd : ∀ d ∈ ds, Bd b (pq1 d) ∧ Bd b (pq2 d)) : SrcP K b H xs (qsOf ds) := by
  refine ⟨by rw [h.len, qsOf, List.length_map], fun i x hx => ?_⟩
  obtain ⟨d, hd, q⟩ := h.at i x hx
  have m := List.mem_of_getElem? hd
  exact ⟨pq1 d, pq2 d, by rw [qsOf, List.getElem?_map, hd]; rfl, q.pr (ok d m) (bd d m).1 (bd d m).2⟩
def spTot (K : PySem.W.Frag) (C T : Addr) : Sp := fun vs H Q E => ∃ (p a : Addr) (xs : List V) (ds : List PyData) (b : Nat), vs = [.ref a] ∧ (SqL K H a xs ∨ SqT K H a xs) ∧ DqAll K p H xs ds ∧ (∀ d ∈ ds, Bd b (pq1 d) ∧ Bd b (pq2 d)) ∧ ds.length ≤ 900 ∧ bitsP b ds.length ≤ 3000 ∧ GxR.TabG H T ∧
  (∀ (i : Nat) (x : V) (d : PyData), xs[i]? = some x → ds[i]? = some d → prB d = false → (∀ j d', j < i → ds[j]? = some d' → prB d' = true) → Er C x H E) ∧
  ((∀ d ∈ ds, prB d = true) → ∀ z H', ExB T H H' → GxR.TabG H' T → Pr K (bitsP b ds.length) ((qsOf ds).map fun q => q.1).sum ((qsOf ds).map fun q => q.2).sum z H' → Q z H')
theorem ok_total (T : Txt K mg) (tb : GxR.TabB base mg T.c_add_all T.P_add_all) : FnOk P w K mg base (L2.CX P w) 6 T.d_total.a T.d_total.fd ["pairs"] (spTot K T.E_BadPair.C T.P_add_all) := by
  refine T.d_total.F.okX sc_total (fun vs H Q E h => ?_) (fun cdv A outer s H vs Q E hr h => ?_)
  · obtain ⟨p, a, xs, ds, b, rfl, _⟩ := h
    rfl
  · obtain ⟨p, a, xs, ds, b, rfl, hS, hA, hb, hl, hB, ht, k2, k1⟩ := h
    refine ⟨_, (pss_cons (ps_expr (pe_call (ok_require_pairs T) (hr.mono (by decide)) (by rfl) T.d_require_pairs.g T.d_require_pairs.F.kp T.d_require_pairs.b .nil (passes_call (takes_of rfl rfl rfl rfl) fun _ _ _ _ h => h) (pa_cons (pv 0) pa_nil)))
      (pss_one (ps_ret (pe_call (ok_add_pairs T tb) (hr.mono (by decide)) (by rfl) T.d_add_pairs.g T.d_add_pairs.F.kp T.d_add_pairs.b .nil pass0 (pa_cons (pv 0) pa_nil))))), ?_⟩
    refine ⟨.ref a, rfl, p, a, xs, ds, rfl, hS, hA, fun all H1 e1 => ?_, k2⟩
    have lq : (qsOf ds).length = ds.length := by rw [qsOf, List.length_map]
    refine ⟨.ref a, rfl, a, xs, qsOf ds, b, rfl, ?_, src_of (DqAll.ex e1 _ _ hA) all hb, by rw [hA.len]; exact hl, by rw [lq]; exact hB, tab_ex ht e1, fun z H2 e2 t2 f => ?_⟩
    · rcases hS with h | h
      · exact .inl (ex_l e1 h)
      · exact .inr (ex_t e1 h)
    · rw [lq] at f
      exact k1 all z H2 ((Ex.b e1).trans e2) t2 f
end
/-! ### the law's own arithmetic -/
section
variable {K : PySem.W.Frag} {σ : L2.St} {H : Hp} {ta tb : TE} {b c n : Nat} {q r : Rat}
def sp2L (K : PySem.W.Frag) (ok : Rat → Prop) (f : Rat → Rat → Rat) : Sp := fun vs H Q _ => ∃ (u v : V) (b c : Nat) (q r : Rat), vs = [u, v] ∧ Fr K b q u H ∧ Fr K c r v H ∧ b + c + 1 ≤ 1900 ∧ ok r ∧
  ∀ z H', Ex H H' → Fr K (b + c + 1) (f q r) z H' → Q z H'
theorem ep_2L {ok : Rat → Prop} {f : Rat → Rat → Rat} {E : XK} (ha : EvP ta σ H (Fr K b q)) (hb : EvP tb σ H (Fr K c r)) (hk : ok r) (hl : b + c + 1 ≤ 1900) (hn : b + c + 1 = n) : EvP (tCall (sp2L K ok f) [] E (tCons ta (tCons tb tNil))) σ H (Fr K n (f q r)) := fun H1 a Q k =>
  ha H1 a _ fun x H2 a2 g => hb H2 (a.trans a2) _ fun y H3 a3 h => ⟨x, y, b, c, q, r, rfl, g.ex a3, h, hl, hk, fun z H' e w => k z H' ((a2.trans a3).trans e) (by subst hn; exact w)⟩
theorem ep_LowL {E : XK} {x y : Int} (ha : Ev ta σ H (.int x)) (hb : Ev tb σ H (.int y)) (hd : y ≠ 0) (hx : x.natAbs < 2 ^ b) (hy : y.natAbs < 2 ^ b) (hl : b ≤ 1900) (hq : Rat.divInt x y = q) : EvP (tCall (spLowL K) [] E (tCons ta (tCons tb tNil))) σ H (Fr K b q) := fun H1 a Q k =>
  ha H1 a _ fun H2 a2 => hb H2 (a.trans a2) _ fun H3 a3 => ⟨x, y, b, rfl, hd, hx, hy, hl, fun z H' e w => k z H' ((a2.trans a3).trans e) (by subst hq; exact w)⟩
end
section
variable {P : Program} {w : World} {K : PySem.W.Frag} {mg : Str → Option Value} {base : Heap}
theorem ok__law_add (T : Txt K mg) : FnOk P w K mg base CX0 3 T.d__law_add.a T.d__law_add.fd ["_law_one_here", "_law_other"] (sp2L K (fun _ => True) fun q r => q + r) := by
  refine T.d__law_add.F.ok sc__law_add (fun vs H Q E h => ?_) (fun cdv A outer s H vs Q E hr h => ?_)
  · obtain ⟨u, v, b, c, q, r, rfl, _⟩ := h
    rfl
  · obtain ⟨u, v, b, c, q, r, rfl, f, g, hl, _, k⟩ := h
    refine ⟨_, (pss_one (ps_ret (pe_call (ok__law_low T) (hr.mono (by decide)) (by rfl) T.d__law_low.g T.d__law_low.F.kp T.d__law_low.b .nil pass0 (pa_cons (pe_op op_add (pe_op op_mulW (pe_ix ix_tup (pv 0) pe_int (fun _ _ => rfl)) (pe_ix ix_tup (pv 1) pe_int (fun _ _ => rfl))) (pe_op op_mulW (pe_ix ix_tup (pv 1) pe_int (fun _ _ => rfl)) (pe_ix ix_tup (pv 0) pe_int (fun _ _ => rfl)))) (pa_cons (pe_op op_mulW (pe_ix ix_tup (pv 0) pe_int (fun _ _ => rfl)) (pe_ix ix_tup (pv 1) pe_int (fun _ _ => rfl))) pa_nil))))), ?_⟩
    have F := @ep_var K (start n__law_add [u, v]) H u b q 0 rfl f
    have G := @ep_var K (start n__law_add [u, v]) H v c r 1 rfl g
    have x := f.bd
    have y := g.bd
    exact s_retP (ep_LowL (b := b + c + 1) (ev_add (ev_mulW (ev_0 F) (ev_1 G) (mulW x.1 (bd_den y) (by omega))) (ev_mulW (ev_0 G) (ev_1 F) (mulW y.1 (bd_den x) (by omega)))) (ev_mulW (ev_1 F) (ev_1 G) (mulW (bd_den x) (bd_den y) (by omega)))
      (Int.mul_ne_zero (den_ne q) (den_ne r)) (bn_add (bn_mul x.1 (bd_den y)) (by rw [Nat.add_comm b c]; exact bn_mul y.1 (bd_den x))) (lt_pow_mono (Nat.le_succ _) (bn_mul (bd_den x) (bd_den y))) hl (add_eq q r)) fun z H1 e w => k z H1 e w
theorem ok__law_sub (T : Txt K mg) : FnOk P w K mg base CX0 3 T.d__law_sub.a T.d__law_sub.fd ["_law_one_here", "_law_other"] (sp2L K (fun _ => True) fun q r => q - r) := by
  refine T.d__law_sub.F.ok sc__law_sub (fun vs H Q E h => ?_) (fun cdv A outer s H vs Q E hr h => ?_)
  · obtain ⟨u, v, b, c, q, r, rfl, _⟩ := h
    rfl
  · obtain ⟨u, v, b, c, q, r, rfl, f, g, hl, _, k⟩ := h
    refine ⟨_, (pss_one (ps_ret (pe_call (ok__law_low T) (hr.mono (by decide)) (by rfl) T.d__law_low.g T.d__law_low.F.kp T.d__law_low.b .nil pass0 (pa_cons (pe_op op_sub (pe_op op_mulW (pe_ix ix_tup (pv 0) pe_int (fun _ _ => rfl)) (pe_ix ix_tup (pv 1) pe_int (fun _ _ => rfl))) (pe_op op_mulW (pe_ix ix_tup (pv 1) pe_int (fun _ _ => rfl)) (pe_ix ix_tup (pv 0) pe_int (fun _ _ => rfl)))) (pa_cons (pe_op op_mulW (pe_ix ix_tup (pv 0) pe_int (fun _ _ => rfl)) (pe_ix ix_tup (pv 1) pe_int (fun _ _ => rfl))) pa_nil))))), ?_⟩
    have F := @ep_var K (start n__law_sub [u, v]) H u b q 0 rfl f
    have G := @ep_var K (start n__law_sub [u, v]) H v c r 1 rfl g
    have x := f.bd
    have y := g.bd
    exact s_retP (ep_LowL (b := b + c + 1) (ev_sub (ev_mulW (ev_0 F) (ev_1 G) (mulW x.1 (bd_den y) (by omega))) (ev_mulW (ev_0 G) (ev_1 F) (mulW y.1 (bd_den x) (by omega)))) (ev_mulW (ev_1 F) (ev_1 G) (mulW (bd_den x) (bd_den y) (by omega)))
      (Int.mul_ne_zero (den_ne q) (den_ne r)) (bn_sub (bn_mul x.1 (bd_den y)) (by rw [Nat.add_comm b c]; exact bn_mul y.1 (bd_den x))) (lt_pow_mono (Nat.le_succ _) (bn_mul (bd_den x) (bd_den y))) hl (sub_eq q r)) fun z H1 e w => k z H1 e w
theorem ok__law_mul (T : Txt K mg) : FnOk P w K mg base CX0 3 T.d__law_mul.a T.d__law_mul.fd ["_law_one_here", "_law_other"] (sp2L K (fun _ => True) fun q r => q * r) := by
  refine T.d__law_mul.F.ok sc__law_mul (fun vs H Q E h => ?_) (fun cdv A outer s H vs Q E hr h => ?_)
  · obtain ⟨u, v, b, c, q, r, rfl, _⟩ := h
    rfl
  · obtain ⟨u, v, b, c, q, r, rfl, f, g, hl, _, k⟩ := h
    refine ⟨_, (pss_one (ps_ret (pe_call (ok__law_low T) (hr.mono (by decide)) (by rfl) T.d__law_low.g T.d__law_low.F.kp T.d__law_low.b .nil pass0 (pa_cons (pe_op op_mulW (pe_ix ix_tup (pv 0) pe_int (fun _ _ => rfl)) (pe_ix ix_tup (pv 1) pe_int (fun _ _ => rfl))) (pa_cons (pe_op op_mulW (pe_ix ix_tup (pv 0) pe_int (fun _ _ => rfl)) (pe_ix ix_tup (pv 1) pe_int (fun _ _ => rfl))) pa_nil))))), ?_⟩
    have F := @ep_var K (start n__law_mul [u, v]) H u b q 0 rfl f
    have G := @ep_var K (start n__law_mul [u, v]) H v c r 1 rfl g
    have x := f.bd
    have y := g.bd
    exact s_retP (ep_LowL (b := b + c + 1) (ev_mulW (ev_0 F) (ev_0 G) (mulW x.1 y.1 (by omega))) (ev_mulW (ev_1 F) (ev_1 G) (mulW (bd_den x) (bd_den y) (by omega)))
      (Int.mul_ne_zero (den_ne q) (den_ne r)) (lt_pow_mono (Nat.le_succ _) (bn_mul x.1 y.1)) (lt_pow_mono (Nat.le_succ _) (bn_mul (bd_den x) (bd_den y))) hl (mul_eq q r)) fun z H1 e w => k z H1 e w
def sgn (n : Int) : Int := (if decide (0 < n) then 1 else 0) - (if decide (n < 0) then 1 else 0)
theorem sgn_cmp (q r : Rat) : sgn (q - r).num = cmp q r := by
  rw [← cmp_eq]
  unfold sgn
  by_cases h : (q - r).num = 0
  · rw [if_pos h, h]
    rfl
  · rw [if_neg h]
    by_cases h2 : 0 < (q - r).num
    · rw [if_pos h2, decide_eq_true h2, decide_eq_false (by omega)]
      rfl
    · rw [if_neg h2, decide_eq_false h2, decide_eq_true (by omega)]
      rfl
def spSign (K : PySem.W.Frag) : Sp := fun vs H Q _ => ∃ (u : V) (b : Nat) (q : Rat), vs = [u] ∧ Fr K b q u H ∧ ∀ H', Ex H H' → Q (.int (sgn q.num)) H'
theorem ok__law_sign (T : Txt K mg) : FnOk P w K mg base CX0 1 T.d__law_sign.a T.d__law_sign.fd ["_law_one_here"] (spSign K) := by
  refine T.d__law_sign.F.ok sc__law_sign (fun vs H Q E h => ?_) (fun cdv A outer s H vs Q E hr h => ?_)
  · obtain ⟨u, b, q, rfl, _⟩ := h
    rfl
  · obtain ⟨u, b, q, rfl, ⟨p, rfl, f, _⟩, k⟩ := h
    refine ⟨_, (pss_one (ps_ret (pe_op op_sub (pe_callTy call_int1 (by rfl) T.n_int (by decide +kernel) (pa_cons (pe_cmpR op_gt (pe_ix ix_tup (pv 0) pe_int (fun _ _ => rfl)) pe_int (nomark _)) pa_nil)) (pe_callTy call_int1 (by rfl) T.n_int (by decide +kernel) (pa_cons (pe_cmpR op_lt (pe_ix ix_tup (pv 0) pe_int (fun _ _ => rfl)) pe_int (nomark _)) pa_nil))))), ?_⟩
    refine ⟨_, rfl, p, _, 0, .int q.num, rfl, rfl, f, rfl, q.num, 0, rfl, rfl, .inr ⟨_, rfl, ?_⟩⟩
    refine ⟨_, rfl, p, _, 0, .int q.num, rfl, rfl, f, rfl, q.num, 0, rfl, rfl, .inr ⟨_, rfl, ?_⟩⟩
    exact ⟨_, _, rfl, rfl, k H (Ex.refl H)⟩
theorem ok__law_is_whole (T : Txt K mg) : FnOk P w K mg base CX0 1 T.d__law_is_whole.a T.d__law_is_whole.fd ["_law_value"] (spIsD K Any isWh) := by
  refine T.d__law_is_whole.F.ok sc__law_is_whole (fun vs H Q E h => ?_) (fun cdv A outer s H vs Q E hr h => ?_)
  · obtain ⟨p, v, d, rfl, _⟩ := h
    rfl
  · obtain ⟨p, v, d, rfl, hd, _, k⟩ := h
    refine ⟨_, (pss_one (ps_ret (pe_and (pe_callB call_isi (by rfl) T.n_isinstance (by decide +kernel) (pa_cons (pv 0) (pa_cons (pe_bltn (v := .ty "int") (by rfl) T.n_int (by decide +kernel) rfl) pa_nil))) (pe_one (pe_not (pe_callB call_isi (by rfl) T.n_isinstance (by decide +kernel) (pa_cons (pv 0) (pa_cons (pe_bltn (v := .ty "bool") (by rfl) T.n_bool (by decide +kernel) rfl) pa_nil)))))))), ?_⟩
    refine s_ret (ev_andV (ev_isi rfl hd (kit_int d)) fun _ => ev_notV (ev_isi rfl hd (kit_bool d))) fun H1 e => ?_
    rw [wh_eq]
    exact k H1 e
/-- a pair of ints is one of small ones -/
def Sm (d : PyData) : Prop := ∀ n m, d = .tuple [.int n, .int m] → n.natAbs < 2 ^ 1000 ∧ m.natAbs < 2 ^ 1000
theorem low_same {n m : Int} (hm : 0 < m) : ((Rat.divInt n m).num = n ∧ ((Rat.divInt n m).den : Int) = m) ↔ Nat.gcd n.natAbs m.natAbs = 1 := by
  constructor
  · rintro ⟨h1, h2⟩
    have := red (Rat.divInt n m)
    rw [h1, h2] at this
    exact this
  · exact fun h => divInt_low hm h
theorem eqv_low {n m : Int} (hm : 0 < m) : PyData.eqv (frd (Rat.divInt n m)) (.tuple [.int n, .int m]) = decide (Nat.gcd n.natAbs m.natAbs = 1) := by
  have e := low_same (n := n) hm
  simp only [frd, PyData.eqv, PyData.eqvAll, Bool.and_true]
  rw [Bool.eq_iff_iff]
  simp [← e]
end
/-! ### the law's own pairs -/
theorem s_pair {K : PySem.W.Frag} {ta tb : TE} {D : Ends} {σ : L2.St} {H : Hp} {b : Nat} {q r : Rat} (ha : EvP ta σ H (Fr K b q)) (hb : EvP tb σ H (Fr K b r)) (k : ∀ z H', Ex H H' → Pr K b q r z H' → D.rt z H') : tRet (tTup (tCons ta (tCons tb tNil))) D σ H :=
  ha H (Ex.refl H) _ fun z1 H1 e1 h1 => hb H1 e1 _ fun z2 H2 e2 h2 => ⟨by show 2 ≤ sizeLine; decide, fun p hp => k _ _ ((e1.trans e2).trans (Ex.new hp)) ⟨p, z1, z2, rfl, SqT.of upd_same, h1.ex (e2.trans (Ex.new hp)), h2.ex (Ex.new hp)⟩⟩
section
variable {P : Program} {w : World} {K : PySem.W.Frag} {mg : Str → Option Value} {base : Heap}
def spTurnL (K : PySem.W.Frag) : Sp := fun vs H Q _ => ∃ (u v : V) (b : Nat) (q r s t : Rat), vs = [u, v] ∧ Pr K b q r u H ∧ Pr K b s t v H ∧ b ≤ 400 ∧ ∀ H', Ex H H' → Q (.int (sgn (turnQ q r s t).num)) H'
theorem ok__law_turn (T : Txt K mg) : FnOk P w K mg base CX0 4 T.d__law_turn.a T.d__law_turn.fd ["_law_one_here", "_law_other"] (spTurnL K) := by
  refine T.d__law_turn.F.ok sc__law_turn (fun vs H Q E h => ?_) (fun cdv A outer s H vs Q E hr h => ?_)
  · obtain ⟨u, v, b, q, r, s, t, rfl, _⟩ := h
    rfl
  · obtain ⟨u, v, b, q, r, s, t, rfl, ⟨a1, x1, y1, rfl, S1, f1, g1⟩, ⟨a2, x2, y2, rfl, S2, f2, g2⟩, hb, k⟩ := h
    refine ⟨_, (pss_one (ps_ret (pe_call (ok__law_sign T) (hr.mono (by decide)) (by rfl) T.d__law_sign.g T.d__law_sign.F.kp T.d__law_sign.b .nil pass0 (pa_cons (pe_call (ok__law_sub T) (hr.mono (by decide)) (by rfl) T.d__law_sub.g T.d__law_sub.F.kp T.d__law_sub.b .nil pass0 (pa_cons (pe_call (ok__law_mul T) (hr.mono (by decide)) (by rfl) T.d__law_mul.g T.d__law_mul.F.kp T.d__law_mul.b .nil pass0 (pa_cons (pe_ix ix_tup (pv 0) pe_int (fun _ _ => rfl)) (pa_cons (pe_ix ix_tup (pv 1) pe_int (fun _ _ => rfl)) pa_nil))) (pa_cons (pe_call (ok__law_mul T) (hr.mono (by decide)) (by rfl) T.d__law_mul.g T.d__law_mul.F.kp T.d__law_mul.b .nil pass0 (pa_cons (pe_ix ix_tup (pv 1) pe_int (fun _ _ => rfl)) (pa_cons (pe_ix ix_tup (pv 0) pe_int (fun _ _ => rfl)) pa_nil))) pa_nil))) pa_nil)))), ?_⟩
    refine ⟨_, rfl, a1, _, 0, x1, rfl, rfl, S1, rfl, _, rfl, a2, _, 1, y2, rfl, rfl, S2, rfl, x1, y2, b, b, q, t, rfl, f1, g2, by omega, trivial, fun z1 H1 e1 h1 => ?_⟩
    refine ⟨_, rfl, a2, _, 0, x2, rfl, rfl, ex_t e1 S2, rfl, _, rfl, a1, _, 1, y1, rfl, rfl, ex_t e1 S1, rfl, x2, y1, b, b, s, r, rfl, f2.ex e1, g1.ex e1, by omega, trivial, fun z2 H2 e2 h2 => ?_⟩
    refine ⟨z1, z2, _, _, _, _, rfl, h1.ex e2, h2, by omega, trivial, fun z3 H3 e3 h3 => ?_⟩
    exact ⟨z3, _, _, rfl, h3, fun H4 e4 => k H4 (((e1.trans e2).trans e3).trans e4)⟩
def spJoinL (K : PySem.W.Frag) : Sp := fun vs H Q _ => ∃ (u v : V) (b c : Nat) (q r s t : Rat), vs = [u, v] ∧ Pr K b q r u H ∧ Pr K c s t v H ∧ b + c + 1 ≤ 1900 ∧ ∀ z H', Ex H H' → Pr K (b + c + 1) (q + s) (r + t) z H' → Q z H'
theorem ok__law_join (T : Txt K mg) : FnOk P w K mg base CX0 4 T.d__law_join.a T.d__law_join.fd ["_law_one_here", "_law_other"] (spJoinL K) := by
  refine T.d__law_join.F.ok sc__law_join (fun vs H Q E h => ?_) (fun cdv A outer s H vs Q E hr h => ?_)
  · obtain ⟨u, v, b, c, q, r, s, t, rfl, _⟩ := h
    rfl
  · obtain ⟨u, v, b, c, q, r, s, t, rfl, ⟨a1, x1, y1, rfl, S1, f1, g1⟩, ⟨a2, x2, y2, rfl, S2, f2, g2⟩, hb, k⟩ := h
    refine ⟨_, (pss_one (ps_ret (pe_tup (pa_cons (pe_call (ok__law_add T) (hr.mono (by decide)) (by rfl) T.d__law_add.g T.d__law_add.F.kp T.d__law_add.b .nil pass0 (pa_cons (pe_ix ix_tup (pv 0) pe_int (fun _ _ => rfl)) (pa_cons (pe_ix ix_tup (pv 1) pe_int (fun _ _ => rfl)) pa_nil))) (pa_cons (pe_call (ok__law_add T) (hr.mono (by decide)) (by rfl) T.d__law_add.g T.d__law_add.F.kp T.d__law_add.b .nil pass0 (pa_cons (pe_ix ix_tup (pv 0) pe_int (fun _ _ => rfl)) (pa_cons (pe_ix ix_tup (pv 1) pe_int (fun _ _ => rfl)) pa_nil))) pa_nil))))), ?_⟩
    refine ⟨_, rfl, a1, _, 0, x1, rfl, rfl, S1, rfl, _, rfl, a2, _, 0, x2, rfl, rfl, S2, rfl, x1, x2, b, c, q, s, rfl, f1, f2, by omega, trivial, fun z1 H1 e1 h1 => ?_⟩
    refine ⟨_, rfl, a1, _, 1, y1, rfl, rfl, ex_t e1 S1, rfl, _, rfl, a2, _, 1, y2, rfl, rfl, ex_t e1 S2, rfl, y1, y2, b, c, r, t, rfl, g1.ex e1, g2.ex e1, by omega, trivial, fun z2 H2 e2 h2 => ?_⟩
    refine ⟨by show 2 ≤ sizeLine; decide, fun p hp => ?_⟩
    have x3 := Ex.new (o := .tup [z1, z2]) hp
    exact k _ _ ((e1.trans e2).trans x3) ⟨p, z1, z2, rfl, SqT.of upd_same, h1.ex (e2.trans x3), h2.ex x3⟩
def spTimesL (K : PySem.W.Frag) : Sp := fun vs H Q _ => ∃ (u v : V) (b c : Nat) (q r s : Rat), vs = [u, v] ∧ Pr K b q r u H ∧ Fr K c s v H ∧ b + c + 1 ≤ 1900 ∧ ∀ z H', Ex H H' → Pr K (b + c + 1) (q * s) (r * s) z H' → Q z H'
theorem ok__law_times (T : Txt K mg) : FnOk P w K mg base CX0 4 T.d__law_times.a T.d__law_times.fd ["_law_pair", "_law_portion"] (spTimesL K) := by
  refine T.d__law_times.F.ok sc__law_times (fun vs H Q E h => ?_) (fun cdv A outer s H vs Q E hr h => ?_)
  · obtain ⟨u, v, b, c, q, r, s, rfl, _⟩ := h
    rfl
  · obtain ⟨u, v, b, c, q, r, s, rfl, ⟨a1, x1, y1, rfl, S1, f1, g1⟩, hs, hb, k⟩ := h
    refine ⟨_, (pss_one (ps_ret (pe_tup (pa_cons (pe_call (ok__law_mul T) (hr.mono (by decide)) (by rfl) T.d__law_mul.g T.d__law_mul.F.kp T.d__law_mul.b .nil pass0 (pa_cons (pe_ix ix_tup (pv 0) pe_int (fun _ _ => rfl)) (pa_cons (pv 1) pa_nil))) (pa_cons (pe_call (ok__law_mul T) (hr.mono (by decide)) (by rfl) T.d__law_mul.g T.d__law_mul.F.kp T.d__law_mul.b .nil pass0 (pa_cons (pe_ix ix_tup (pv 0) pe_int (fun _ _ => rfl)) (pa_cons (pv 1) pa_nil))) pa_nil))))), ?_⟩
    refine ⟨_, rfl, a1, _, 0, x1, rfl, rfl, S1, rfl, _, rfl, x1, v, b, c, q, s, rfl, f1, hs, by omega, trivial, fun z1 H1 e1 h1 => ?_⟩
    refine ⟨_, rfl, a1, _, 1, y1, rfl, rfl, ex_t e1 S1, rfl, _, rfl, y1, v, b, c, r, s, rfl, g1.ex e1, hs.ex e1, by omega, trivial, fun z2 H2 e2 h2 => ?_⟩
    refine ⟨by show 2 ≤ sizeLine; decide, fun p hp => ?_⟩
    have x3 := Ex.new (o := .tup [z1, z2]) hp
    exact k _ _ ((e1.trans e2).trans x3) ⟨p, z1, z2, rfl, SqT.of upd_same, h1.ex (e2.trans x3), h2.ex x3⟩
def spNone (K : PySem.W.Frag) : Sp := fun vs H Q _ => vs = [] ∧ ∀ z H', Ex H H' → Pr K 1 0 0 z H' → Q z H'
theorem ok__law_none (T : Txt K mg) : FnOk P w K mg base CX0 1 T.d__law_none.a T.d__law_none.fd [] (spNone K) := by
  refine T.d__law_none.F.ok sc__law_none (fun vs H Q E h => ?_) (fun cdv A outer s H vs Q E hr h => ?_)
  · obtain ⟨rfl, _⟩ := h
    rfl
  · obtain ⟨rfl, k⟩ := h
    refine ⟨_, (pss_one (ps_ret (pe_tup (pa_cons (pe_tup (pa_cons pe_int (pa_cons pe_int pa_nil))) (pa_cons (pe_tup (pa_cons pe_int (pa_cons pe_int pa_nil))) pa_nil))))), ?_⟩
    exact s_pair (ep_01 (K := K)) ep_01 k
end
/-! ### data that is drawn, texts that are due -/
section
variable {K : PySem.W.Frag} {p : Addr} {σ : L2.St} {H H' : Hp} {te ta tb : TE} {v : V} {d : PyData} {ds : List PyData} {tt : TT}
mutual
theorem Dq.exb {xs : List V} (hp : H p = some (.lst xs)) (e : ExB p H H') : ∀ (d : PyData) (v : V), Dq K p H v d → Dq K p H' v d
  | _, _, .non => .non
  | _, _, .bl b => .bl b
  | _, _, .int i => .int i
  | _, _, .str x => .str x
  | _, _, .lst n m h hs => .lst n m (e _ _ n h) (DqAll.exb hp e _ _ hs)
  | _, _, .tup h hs => .tup (tup_lst hp e h) (DqAll.exb hp e _ _ hs)
  | _, _, .emp h => .emp (e _ _ (by rintro rfl; rw [hp] at h; cases h) h)
theorem DqAll.exb {xs : List V} (hp : H p = some (.lst xs)) (e : ExB p H H') : ∀ (ds : List PyData) (vs : List V), DqAll K p H vs ds → DqAll K p H' vs ds
  | _, _, .nil => .nil
  | _, _, .cons h hs => .cons (Dq.exb hp e _ _ h) (DqAll.exb hp e _ _ hs)
end
def EvD (K : PySem.W.Frag) (p : Addr) (te : TE) (σ : L2.St) (H : Hp) (d : PyData) : Prop := EvP te σ H fun v H => Dq K p H v d
def EvDs (K : PySem.W.Frag) (p : Addr) (ta : TA) (σ : L2.St) (H : Hp) (ds : List PyData) : Prop := ∀ H1, Ex H H1 → ∀ Q : List V → Hp → Prop, (∀ vs H2, Ex H1 H2 → DqAll K p H2 vs ds → Q vs H2) → ta σ H1 Q
theorem ed_ev (h : Ev te σ H v) (hd : ∀ H, Dq K p H v d) : EvD K p te σ H d := fun H1 e Q k => h H1 e Q fun H2 e2 => k v H2 e2 (hd H2)
theorem ed_var {i : Nat} (h : σ[i]? = some (some v)) (hd : Dq K p H v d) : EvD K p (tVar i) σ H d := fun H1 e _ k => ⟨v, h, k v H1 (Ex.refl H1) (Dq.ex e _ _ hd)⟩
theorem ed_int {n : Int} : EvD K p (tC (.int n)) σ H (.int n) := ed_ev ev_c fun _ => .int n
theorem ed_neg {n : Int} : EvD K p (tUn (rU fun i => .int (-i)) (tC (.int n))) σ H (.int (-n)) := ed_ev (ev_neg ev_c) fun _ => .int _
theorem ed_bool {b : Bool} : EvD K p (tC (.bl b)) σ H (.bool b) := ed_ev ev_c fun _ => .bl b
theorem ed_none : EvD K p (tC .non) σ H .none := ed_ev ev_c fun _ => .non
theorem ed_str {x : Str} : EvD K p (tC (.str x)) σ H (.str x) := ed_ev ev_c fun _ => .str x
theorem ed_fr {b : Nat} {q : Rat} (h : EvP te σ H (Fr K b q)) : EvD K p te σ H (frd q) := fun H1 e Q k => h H1 e Q fun v H2 e2 f => k v H2 e2 f.dq
theorem eds_nil : EvDs K p tNil σ H [] := fun H1 e Q k => k [] H1 (Ex.refl H1) .nil
theorem eds_cons {tr : TA} (h : EvD K p te σ H d) (hs : EvDs K p tr σ H ds) : EvDs K p (tCons te tr) σ H (d :: ds) := fun H1 e Q k =>
  h H1 e _ fun v H2 e2 q => hs H2 (e.trans e2) _ fun vs H3 e3 qs => k _ H3 (e2.trans e3) (.cons (Dq.ex e3 _ _ q) qs)
theorem ed_tup {ta : TA} (h : EvDs K p ta σ H ds) (hl : ds.length ≤ 1000) : EvD K p (tTup ta) σ H (.tuple ds) := fun H1 e Q k =>
  h H1 e _ fun vs H2 e2 qs => ⟨Nat.le_of_lt (small1000 (by rw [qs.len]; exact hl)), fun a fa => k _ _ (e2.trans (Ex.new fa)) (.tup (SqT.of upd_same) (DqAll.ex (Ex.new fa) _ _ qs))⟩
theorem ed_lst {ta : TA} {o : HO} (hp : H p = some o) (h : EvDs K p ta σ H ds) (hl : ds.length ≤ 1000) : EvD K p (tLstN ta) σ H (.list ds) := fun H1 e Q k =>
  h H1 e _ fun vs H2 e2 qs => ⟨Nat.le_of_lt (small1000 (by rw [qs.len]; exact hl)), fun a fa fm => k _ _ (e2.trans (Ex.new fa)) (.lst (ne_of_none (e2 _ _ (e _ _ hp)) fa).symm fm upd_same (DqAll.ex (Ex.new fa) _ _ qs))⟩
theorem ed_emp : EvD K p tDNewK σ H (.dict []) := fun H1 e Q k a fa => k _ _ (Ex.new fa) (.emp upd_same)
theorem ed_if {b : Bool} (h : EvT tt σ H b) (h1 : b = true → EvD K p ta σ H d) (h2 : b = false → EvD K p tb σ H d) : EvD K p (tIf tt ta tb) σ H d := fun H1 e Q k => h H1 e _ fun H2 e2 => by
  cases b with
  | true =>
    refine iteT ?_
    exact h1 rfl H2 (e.trans e2) Q fun v H3 e3 q => k v H3 (e2.trans e3) q
  | false =>
    refine iteF ?_
    exact h2 rfl H2 (e.trans e2) Q fun v H3 e3 q => k v H3 (e2.trans e3) q
/-- repr of data -/
theorem ev_repr {c e : Nat} (h : EvD K p te σ H d) (n : Nc c e d) (hc : c ≤ 1000000) (he : e ≤ 60) : Ev (tCB (rRepr K) (tCons te tNil)) σ H (.str d.shown) := fun H1 a Q k =>
  h H1 a _ fun v H2 e2 q => ⟨v, d, p, rfl, .inl q, n.sh, Nat.le_trans n.dp he, Nat.le_trans (n.len hc) (Nat.le_trans hc (by decide)), k H2 e2⟩
theorem ev_cat {x y : Str} (ha : Ev ta σ H (.str x)) (hb : Ev tb σ H (.str y)) (h : x.length + y.length ≤ sizeLine) : Ev (tOp (fun x y H Q => ∃ i j, x = .str i ∧ y = .str j ∧ i.length + j.length ≤ sizeLine ∧ Q (.str (i ++ j)) H) ta tb) σ H (.str (x ++ y)) :=
  ev_op ha hb fun H1 _ _ k => ⟨x, y, rfl, rfl, h, k H1 (Ex.refl H1)⟩
theorem ev_bad {c e : Nat} (h : EvD K p te σ H d) (n : Nc c e d) (hc : c ≤ 1000000) (he : e ≤ 60) : Ev (tOp (fun x y H Q => ∃ i j, x = .str i ∧ y = .str j ∧ i.length + j.length ≤ sizeLine ∧ Q (.str (i ++ j)) H) (tC (.str "bad")) (tCB (rRepr K) (tCons te tNil))) σ H (.str ("bad" ++ d.shown)) :=
  ev_cat ev_c (ev_repr h n hc he) (by
    have h1 := n.len hc
    have h2 : (("bad" : String) : Str).length = 3 := by decide
    have h3 : 1000003 ≤ sizeLine := by decide
    omega)
/-- drawn data -/
structure Good (d : PyData) : Prop where
  nc : Nc 1000 3 d
  iv : (ival d).natAbs < 2 ^ 100
  tp : ∀ n m, d = .tuple [.int n, .int m] → n.natAbs < 2 ^ 100 ∧ m.natAbs < 2 ^ 100
theorem Good.sm (h : Good d) : Sm d := fun n m e => ⟨lt_pow_mono (by decide) (h.tp n m e).1, lt_pow_mono (by decide) (h.tp n m e).2⟩
theorem Good.fq (h : Good d) : Bd 100 (frQ d) := by
  have z : Bd 100 0 := ⟨by decide, by decide⟩
  unfold frQ
  split
  · rename_i n m
    by_cases hm : m = 0
    · subst hm
      have e : Rat.divInt n 0 = 0 := Rat.divInt_zero _
      rw [e]
      exact z
    · obtain ⟨h1, h2⟩ := h.tp n m rfl
      exact bd_divInt hm h1 h2
  · exact z
theorem good_int {n : Int} (h : n.natAbs < 2 ^ 100) : Good (.int n) := ⟨(nc_int h (by decide) (by decide)).mono (by decide) (by decide), h, fun _ _ e => nomatch e⟩
theorem good_pair {n m : Int} (h : n.natAbs < 2 ^ 100) (h2 : m.natAbs < 2 ^ 100) : Good (.tuple [.int n, .int m]) := ⟨(nc_pair h h2 (by decide) (by decide)).mono (by decide) (by decide), (show (0 : Int).natAbs < 2 ^ 100 by decide), fun a b e => by
  simp only [PyData.tuple.injEq, List.cons.injEq, PyData.int.injEq, and_true] at e
  obtain ⟨rfl, rfl⟩ := e
  exact ⟨h, h2⟩⟩
theorem good_fr {q : Rat} (h : Bd 100 q) : Good (frd q) := good_pair h.1 (bd_den h)
/-- other data -/
theorem good_of {c e : Nat} (h : Nc c e d) (hc : c ≤ 1000) (he : e ≤ 3) (hi : isWh d = false) (hp : ∀ n m, d ≠ .tuple [.int n, .int m]) : Good d := by
  refine ⟨h.mono hc he, ?_, fun n m e => absurd e (hp n m)⟩
  cases d with
  | int n => cases hi
  | _ => show 0 < 2 ^ 100; decide
end
/-! ### drawn pairs -/
def pairD (q r : Rat) : PyData := .tuple [frd q, frd r]
/-- drawn data: shown without harm, its parts small -/
structure GoodP (d : PyData) : Prop where
  nc : Nc 1000 5 d
  pt : ∀ d1 d2, d = .tuple [d1, d2] → Good d1 ∧ Good d2
  nd : d.hasDict = false
  cl : d.canLay0 = true
theorem GoodP.b1 {d : PyData} (h : GoodP d) : Bd 100 (pq1 d) := by
  unfold pq1
  split
  · rename_i d1 d2
    exact (h.pt d1 d2 rfl).1.fq
  · exact ⟨by decide, by decide⟩
theorem GoodP.b2 {d : PyData} (h : GoodP d) : Bd 100 (pq2 d) := by
  unfold pq2
  split
  · rename_i d1 d2
    exact (h.pt d1 d2 rfl).2.fq
  · exact ⟨by decide, by decide⟩
theorem goodP_of {d : PyData} {c e : Nat} (h : Nc c e d) (hc : c ≤ 1000) (he : e ≤ 5) (hp : ∀ d1 d2, d ≠ .tuple [d1, d2]) (nd : d.hasDict = false := by rfl) (cl : d.canLay0 = true := by rfl) : GoodP d := ⟨h.mono hc he, fun d1 d2 z => absurd z (hp d1 d2), nd, cl⟩
theorem goodP_pr {d1 d2 : PyData} {c e c' e' : Nat} (g1 : Good d1) (g2 : Good d2) (h1 : Nc c e d1) (h2 : Nc c' e' d2) (hc : c + c' ≤ 900) (he : e ≤ 4) (he' : e' ≤ 4) (nd : (PyData.tuple [d1, d2]).hasDict = false := by rfl) (cl : (PyData.tuple [d1, d2]).canLay0 = true := by rfl) : GoodP (.tuple [d1, d2]) :=
  ⟨(nc_tup (nca_cons (h1.mono (Nat.le_refl _) he) (nca_cons (h2.mono (Nat.le_refl _) he') nca_nil))).mono (by omega) (by decide), fun a b z => by
    simp only [PyData.tuple.injEq, List.cons.injEq, and_true] at z
    obtain ⟨rfl, rfl⟩ := z
    exact ⟨g1, g2⟩, nd, cl⟩
section
variable {K : PySem.W.Frag} {p : Addr} {σ : L2.St} {H : Hp} {v : V} {q r : Rat} {b : Nat}
theorem Pr.dq (h : Pr K b q r v H) : Dq K p H v (pairD q r) := by
  obtain ⟨a, x, y, rfl, hS, f, g⟩ := h
  exact .tup hS (.cons f.dq (.cons g.dq .nil))
theorem ed_p0 (hv : σ[1]? = some (some v)) (h : Pr K b q r v H) : EvD K p (tOp (rIxT K) (tVar 1) (tC (.int 0))) σ H (frd q) := fun H1 e Q k => by
  obtain ⟨a, x, y, rfl, hS, f, g⟩ := h
  exact ⟨_, hv, a, _, 0, x, rfl, rfl, ex_t e hS, rfl, k x H1 (Ex.refl _) (f.ex e).dq⟩
theorem ed_p1 (hv : σ[1]? = some (some v)) (h : Pr K b q r v H) : EvD K p (tOp (rIxT K) (tVar 1) (tC (.int 1))) σ H (frd r) := fun H1 e Q k => by
  obtain ⟨a, x, y, rfl, hS, f, g⟩ := h
  exact ⟨_, hv, a, _, 1, y, rfl, rfl, ex_t e hS, rfl, k y H1 (Ex.refl _) (g.ex e).dq⟩
theorem ed_pw (hv : σ[1]? = some (some v)) (h : Pr K b q r v H) : EvD K p (tVar 1) σ H (pairD q r) := ed_var hv h.dq
def tS1 (K : PySem.W.Frag) : TE := L2.tSl (rSlT K) (tVar 1) tNoPart (tPart (tC (.int 1)))
theorem ed_sl (hv : σ[1]? = some (some v)) (h : Pr K b q r v H) : EvD K p (tS1 K) σ H (.tuple [frd q]) := fun H1 e Q k => by
  obtain ⟨a, x, y, rfl, hS, f, g⟩ := h
  refine ⟨_, hv, 1, rfl, a, [x, y], rfl, ex_t e hS, (by show ¬ (HT.sIx 2 0 none = 0 ∧ HT.sIx 2 2 (some 1) = 2); decide), fun t ht => ?_⟩
  exact k _ _ (Ex.new ht) (.tup (SqT.of upd_same) (.cons (f.ex (e.trans (Ex.new ht))).dq .nil))
theorem ed_cat (hv : σ[1]? = some (some v)) (h : Pr K b q r v H) : EvD K p (tOp (rCatT K) (tVar 1) (tS1 K)) σ H (.tuple [frd q, frd r, frd q]) := fun H1 e Q k => by
  obtain ⟨a, x, y, rfl, hS, f, g⟩ := h
  refine ⟨_, hv, _, hv, 1, rfl, a, [x, y], rfl, ex_t e hS, (by show ¬ (HT.sIx 2 0 none = 0 ∧ HT.sIx 2 2 (some 1) = 2); decide), fun t ht => ?_⟩
  have x1 := Ex.new (o := .tup (cutV [x, y] none (some 1))) ht
  refine ⟨a, t, [x, y], [x], rfl, rfl, ex_t (e.trans x1) hS, SqT.of upd_same, by simp, by show 3 ≤ sizeLine; decide, fun z => (by cases z), fun _ t2 ht2 => ?_⟩
  have x2 := Ex.new (o := .tup [x, y, x]) ht2
  exact k _ _ (x1.trans x2) (.tup (SqT.of upd_same) (.cons (f.ex (e.trans (x1.trans x2))).dq (.cons (g.ex (e.trans (x1.trans x2))).dq (.cons (f.ex (e.trans (x1.trans x2))).dq .nil))))
theorem ed_ls {o : HO} (hh : H p = some o) (hv : σ[1]? = some (some v)) (h : Pr K b q r v H) : EvD K p (tCB (rListN K) (tCons (tVar 1) tNil)) σ H (.list [frd q, frd r]) := fun H1 e Q k => by
  obtain ⟨a, x, y, rfl, hS, f, g⟩ := h
  refine ⟨_, hv, a, [x, y], rfl, .inr (ex_t e hS), fun l hl hm => ?_⟩
  have x1 := Ex.new (o := .lst [x, y]) hl
  exact k _ _ x1 (.lst (ne_of_none (e _ _ hh) hl).symm hm upd_same (.cons (f.ex (e.trans x1)).dq (.cons (g.ex (e.trans x1)).dq .nil)))
end
/-! ### the menus -/
def tI (n : Int) : TE := tC (.int n)
def tN (n : Int) : TE := tUn (rU fun i => .int (-i)) (tC (.int n))
def tP (a b : TE) : TE := tTup (tCons a (tCons b tNil))
def tA : TA := tCons (tP (tI 0) (tI 1)) (tCons (tP (tI 1) (tI 1)) (tCons (tP (tI 2) (tI 1)) (tCons (tP (tI 3) (tI 1)) (tCons (tP (tI 1) (tI 2)) (tCons (tP (tN 1) (tI 1)) (tCons (tP (tN 2) (tI 1)) (tCons (tP (tI 5) (tI 3)) (tCons (tP (tN 1) (tI 2)) (tCons (tP (tI 9) (tI 1)) tNil)))))))))
def dA : List PyData := [.tuple [.int 0, .int 1], .tuple [.int 1, .int 1], .tuple [.int 2, .int 1], .tuple [.int 3, .int 1], .tuple [.int 1, .int 2], .tuple [.int (-1), .int 1], .tuple [.int (-2), .int 1], .tuple [.int 5, .int 3], .tuple [.int (-1), .int 2], .tuple [.int 9, .int 1]]
theorem goodA : ∀ d ∈ dA, frB d = true ∧ Bd 4 (frQ d) := by
  unfold Bd
  decide +kernel
section
variable {K : PySem.W.Frag} {p : Addr} {σ : L2.St} {H : Hp} {a b : TE} {d e : PyData} {v : V} {q r : Rat}
theorem ed_I {n : Int} : EvD K p (tI n) σ H (.int n) := ed_int
theorem ed_N {n : Int} : EvD K p (tN n) σ H (.int (-n)) := ed_neg
theorem ed_P (h : EvD K p a σ H d) (g : EvD K p b σ H e) : EvD K p (tP a b) σ H (.tuple [d, e]) := ed_tup (eds_cons h (eds_cons g eds_nil)) (by show 2 ≤ 1000; decide)
theorem mA : EvDs K p tA σ H dA := by
  unfold tA dA
  exact eds_cons (ed_P ed_I ed_I) (eds_cons (ed_P ed_I ed_I) (eds_cons (ed_P ed_I ed_I) (eds_cons (ed_P ed_I ed_I) (eds_cons (ed_P ed_I ed_I) (eds_cons (ed_P ed_N ed_I) (eds_cons (ed_P ed_N ed_I) (eds_cons (ed_P ed_I ed_I) (eds_cons (ed_P ed_N ed_I) (eds_cons (ed_P ed_I ed_I) eds_nil)))))))))
/-- a written list of data -/
def LstD (K : PySem.W.Frag) (p : Addr) (ds : List PyData) (v : V) (H : Hp) : Prop := ∃ (l : Addr) (vs : List V), v = .ref l ∧ l ≠ p ∧ l ≠ sysModules ∧ H l = some (.lst vs) ∧ DqAll K p H vs ds
def LstD0 (K : PySem.W.Frag) (p : Addr) (ds : List PyData) (v : V) (H : Hp) : Prop := ∃ (l : Addr) (vs : List V), v = .ref l ∧ l ≠ p ∧ H l = some (.lst vs) ∧ DqAll K p H vs ds
theorem LstD.to0 {ds : List PyData} (h : LstD K p ds v H) : LstD0 K p ds v H := by
  obtain ⟨l, vs, rfl, n, m, h, q⟩ := h
  exact ⟨l, vs, rfl, n, h, q⟩
theorem LstD.ex {ds : List PyData} {H' : Hp} (e : Ex H H') (h : LstD K p ds v H) : LstD K p ds v H' := by
  obtain ⟨l, vs, rfl, n, m, h, q⟩ := h
  exact ⟨l, vs, rfl, n, m, e _ _ h, DqAll.ex e _ _ q⟩
theorem el_lst {tm : TA} {ds : List PyData} {o : HO} (hh : H p = some o) (hm : EvDs K p tm σ H ds) (hl : ds.length ≤ 900) : EvP (tLstN tm) σ H (LstD K p ds) := fun H1 e Q k =>
  hm H1 e _ fun vs H2 e2 qs => ⟨Nat.le_of_lt (small1000 (by rw [qs.len]; omega)), fun l fl fm => k _ _ (e2.trans (Ex.new fl)) ⟨l, vs, rfl, (ne_of_none (e2 _ _ (e _ _ hh)) fl).symm, fm, upd_same, DqAll.ex (Ex.new fl) _ _ qs⟩⟩
theorem el_cat {tm : TA} {ds es : List PyData} {o : HO} {i : Nat} (hh : H p = some o) (h : σ[i]? = some (some v)) (hv : LstD0 K p ds v H) (hm : EvDs K p tm σ H es) (hl : ds.length + es.length ≤ 900) : EvP (tOp rCat (tVar i) (tLstN tm)) σ H (fun w H' => LstD0 K p (ds ++ es) w H') := fun H1 e Q k => by
  obtain ⟨l, vs, rfl, n, hlv, q1⟩ := hv
  refine ⟨.ref l, h, ?_⟩
  refine hm H1 e _ fun ws H2 e2 q2 => ?_
  have lv : vs.length = ds.length := q1.len
  have lw : ws.length = es.length := q2.len
  refine ⟨Nat.le_of_lt (small1000 (by omega)), fun l2 f2 _ => ?_⟩
  have h2 := e2 _ _ (e _ _ hlv)
  have nl : l ≠ l2 := ne_of_none h2 f2
  refine ⟨l, l2, vs, ws, rfl, rfl, by rw [upd_ne nl]; exact h2, upd_same, Nat.le_of_lt (small1000 (by omega)), fun l3 f3 => ?_⟩
  have x2 := Ex.new (o := .lst ws) f2
  have x3 := Ex.new (o := .lst (vs ++ ws)) f3
  have np : l3 ≠ p := (ne_of_none (x2 _ _ (e2 _ _ (e _ _ hh))) f3).symm
  exact k _ _ (e2.trans (x2.trans x3)) ⟨l3, vs ++ ws, rfl, np, upd_same, (DqAll.ex (e.trans (e2.trans (x2.trans x3))) _ _ q1).append (DqAll.ex (x2.trans x3) _ _ q2)⟩
end
section
variable {P : Program} {w : World} {K : PySem.W.Frag} {mg : Str → Option Value} {base : Heap}
def spAmount (K : PySem.W.Frag) : Sp := fun vs H Q _ => ∃ (p a : Addr) (N : Nat), vs = [.ref p] ∧ Pen H p a N ∧ N ≤ 900 ∧ ∀ z q H', ExB p H H' → Pen H' p a (N + 1) → Fr K 4 q z H' → Q z H'
theorem ok__law_amount (T : Txt K mg) : FnOk P w K mg base CX0 4 T.d__law_amount.a T.d__law_amount.fd ["_law_pen"] (spAmount K) := by
  refine T.d__law_amount.F.ok sc__law_amount (fun vs H Q E h => ?_) (fun cdv A outer s H vs Q E hr h => ?_)
  · obtain ⟨p, a, N, rfl, _⟩ := h
    rfl
  · obtain ⟨p, a, N, rfl, hp, hN, k⟩ := h
    refine ⟨_, (pss_cons (ps_set (i := 1) sc__law_amount.nd rfl (Or.inl rfl) (pe_lstN (pa_cons (pe_tup (pa_cons pe_int (pa_cons pe_int pa_nil))) (pa_cons (pe_tup (pa_cons pe_int (pa_cons pe_int pa_nil))) (pa_cons (pe_tup (pa_cons pe_int (pa_cons pe_int pa_nil))) (pa_cons (pe_tup (pa_cons pe_int (pa_cons pe_int pa_nil))) (pa_cons (pe_tup (pa_cons pe_int (pa_cons pe_int pa_nil))) (pa_cons (pe_tup (pa_cons (pe_un un_neg pe_int) (pa_cons pe_int pa_nil))) (pa_cons (pe_tup (pa_cons (pe_un un_neg pe_int) (pa_cons pe_int pa_nil))) (pa_cons (pe_tup (pa_cons pe_int (pa_cons pe_int pa_nil))) (pa_cons (pe_tup (pa_cons (pe_un un_neg pe_int) (pa_cons pe_int pa_nil))) (pa_cons (pe_tup (pa_cons pe_int (pa_cons pe_int pa_nil))) pa_nil))))))))))))
      (pss_one (ps_ret (pe_call (ok__law_one T) (hr.mono (by decide)) (by rfl) T.d__law_one.g T.d__law_one.F.kp T.d__law_one.b .nil pass0 (pa_cons (pv 0) (pa_cons (pv 1) pa_nil)))))), ?_⟩
    obtain ⟨px, hx⟩ := hp.hasP
    refine n_seq ?_
    refine s_asgP (el_lst (K := K) (p := p) (tm := tA) hx mA (by decide)) fun v1 H1 e1 h1 => ?_
    obtain ⟨l, vs, rfl, n, _, hl, qs⟩ := h1
    have lv : vs.length = 10 := qs.len
    refine ⟨_, rfl, _, rfl, p, a, l, vs, N, rfl, hp.ex e1, hl, n, by omega, by omega, by omega, fun x H2 hm eb hp2 => ?_⟩
    obtain ⟨d, hd, q⟩ := qs.mem x hm
    obtain ⟨g1, g2⟩ := goodA d hd
    exact k x (frQ d) H2 ((Ex.b e1).trans eb) hp2 ((Dq.exb (e1 _ _ hx) eb _ _ q).fr g1 g2)
end
/-! ### any pair, or what is none -/
def tF0 (K : PySem.W.Frag) : TE := tOp (rIxT K) (tVar 1) (tC (.int 0))
def tF1 (K : PySem.W.Frag) : TE := tOp (rIxT K) (tVar 1) (tC (.int 1))
def tL12 : TE := tLstN (tCons (tI 1) (tCons (tI 2) tNil))
def tY1 (K : PySem.W.Frag) : TA := tCons (tP tL12 (tF1 K)) (tCons (tP (tF0 K) tL12) (tCons (tC .non) (tCons (tI 0) (tCons (tTup tNil) (tCons (tS1 K) (tCons (tOp (rCatT K) (tVar 1) (tS1 K)) tNil))))))
def tY2 (K : PySem.W.Frag) : TA := tCons (tCB (rListN K) (tCons (tVar 1) tNil)) (tCons (tP (tF0 K) (tP (tI 2) (tI 4))) (tCons (tP (tP (tI 1) (tI 0)) (tF1 K)) (tCons (tP (tI 1) (tI 2)) (tCons (tP (tF0 K) (tC .non)) tNil))))
def tY3 : TA := tCons (tC (.str "pair")) (tCons (tP (tP (tC (.bl true)) (tI 1)) (tP (tI 0) (tI 1))) (tCons (tP (tVar 1) (tVar 1)) (tCons (tLstN (tCons (tVar 1) tNil)) (tCons (tP (tP (tI 0) (tI 1)) (tP (tI 0) (tN 1))) tNil))))
def dL12 : PyData := .list [.int 1, .int 2]
def dY1 (q r : Rat) : List PyData := [.tuple [dL12, frd r], .tuple [frd q, dL12], .none, .int 0, .tuple [], .tuple [frd q], .tuple [frd q, frd r, frd q]]
def dY2 (q r : Rat) : List PyData := [.list [frd q, frd r], .tuple [frd q, .tuple [.int 2, .int 4]], .tuple [.tuple [.int 1, .int 0], frd r], .tuple [.int 1, .int 2], .tuple [frd q, .none]]
def dY3 (q r : Rat) : List PyData := [.str "pair", .tuple [.tuple [.bool true, .int 1], .tuple [.int 0, .int 1]], .tuple [pairD q r, pairD q r], .list [pairD q r], .tuple [.tuple [.int 0, .int 1], .tuple [.int 0, .int (-1)]]]
theorem nc_f {q : Rat} (h : Bd 4 q) : Nc 20 1 (frd q) := (nc_pair h.1 (bd_den h) (by decide) (by decide)).mono (by decide) (by decide)
theorem g_f {q : Rat} (h : Bd 4 q) : Good (frd q) := good_fr (h.mono (by decide))
theorem nc_i (n : Int) (h : n.natAbs < 2 ^ 8) : Nc 10 0 (.int n) := nc_int (b := 8) h (by decide) (by decide)
theorem nc_12 : Nc 28 1 dL12 := nc_lst (nca_cons (nc_i 1 (by decide)) (nca_cons (nc_i 2 (by decide)) nca_nil))
theorem g_12 : Good dL12 := good_of nc_12 (by decide) (by decide) rfl (fun _ _ e => nomatch e)
theorem nc_ii (n m : Int) (h : n.natAbs < 2 ^ 8) (h' : m.natAbs < 2 ^ 8) : Nc 28 1 (.tuple [.int n, .int m]) := nc_tup (nca_cons (nc_i n h) (nca_cons (nc_i m h') nca_nil))
theorem g_ii (n m : Int) (h : n.natAbs < 2 ^ 8) (h' : m.natAbs < 2 ^ 8) : Good (.tuple [.int n, .int m]) := good_pair (lt_pow_mono (by decide) h) (lt_pow_mono (by decide) h')
theorem nc_pD {q r : Rat} (h : Bd 4 q) (h' : Bd 4 r) : Nc 48 2 (pairD q r) := nc_tup (nca_cons (nc_f h) (nca_cons (nc_f h') nca_nil))
theorem g_pD {q r : Rat} (h : Bd 4 q) (h' : Bd 4 r) : Good (pairD q r) := good_of (nc_pD h h') (by decide) (by decide) rfl (fun _ _ e => by simp [pairD, frd] at e)
theorem gp_pD {q r : Rat} (h : Bd 4 q) (h' : Bd 4 r) : GoodP (pairD q r) := goodP_pr (g_f h) (g_f h') (nc_f h) (nc_f h') (by decide) (by decide) (by decide)
theorem goodY {q r : Rat} (h : Bd 4 q) (h' : Bd 4 r) : ∀ d ∈ dY1 q r ++ dY2 q r ++ dY3 q r, GoodP d := by
  have nl : ∀ {d : PyData}, (∀ xs, d ≠ .tuple xs) → ∀ d1 d2, d ≠ .tuple [d1, d2] := fun h d1 d2 e => h _ e
  have gi : ∀ n : Int, n.natAbs < 2 ^ 8 → Good (.int n) := fun n h => good_int (lt_pow_mono (by decide) h)
  intro d hd
  rcases List.mem_append.mp hd with hd | hd
  · rcases List.mem_append.mp hd with hd | hd
    · refine (?_ : ∀ d ∈ dY1 q r, GoodP d) d hd
      refine List.forall_mem_cons.mpr ⟨goodP_pr g_12 (g_f h') nc_12 (nc_f h') (by decide) (by decide) (by decide), List.forall_mem_cons.mpr ⟨goodP_pr (g_f h) g_12 (nc_f h) nc_12 (by decide) (by decide) (by decide), List.forall_mem_cons.mpr ⟨goodP_of nc_none (by decide) (by decide) (fun _ _ e => nomatch e), List.forall_mem_cons.mpr ⟨goodP_of (nc_i 0 (by decide)) (by decide) (by decide) (fun _ _ e => nomatch e), ?_⟩⟩⟩⟩
      exact List.forall_mem_cons.mpr ⟨goodP_of (nc_tup (nca_nil (e := 0))) (by decide) (by decide) (by simp), List.forall_mem_cons.mpr ⟨goodP_of (nc_tup (nca_cons (nc_f h) nca_nil)) (by decide) (by decide) (by simp), List.forall_mem_cons.mpr ⟨goodP_of (nc_tup (nca_cons (nc_f h) (nca_cons (nc_f h') (nca_cons (nc_f h) nca_nil)))) (by decide) (by decide) (by simp), fun _ z => nomatch z⟩⟩⟩
    · refine (?_ : ∀ d ∈ dY2 q r, GoodP d) d hd
      refine List.forall_mem_cons.mpr ⟨goodP_of (nc_lst (nca_cons (nc_f h) (nca_cons (nc_f h') nca_nil))) (by decide) (by decide) (fun _ _ e => nomatch e), List.forall_mem_cons.mpr ⟨goodP_pr (g_f h) (g_ii 2 4 (by decide) (by decide)) (nc_f h) (nc_ii 2 4 (by decide) (by decide)) (by decide) (by decide) (by decide), ?_⟩⟩
      exact List.forall_mem_cons.mpr ⟨goodP_pr (g_ii 1 0 (by decide) (by decide)) (g_f h') (nc_ii 1 0 (by decide) (by decide)) (nc_f h') (by decide) (by decide) (by decide), List.forall_mem_cons.mpr ⟨goodP_pr (gi 1 (by decide)) (gi 2 (by decide)) (nc_i 1 (by decide)) (nc_i 2 (by decide)) (by decide) (by decide) (by decide), List.forall_mem_cons.mpr ⟨goodP_pr (g_f h) (good_of nc_none (by decide) (by decide) rfl (fun _ _ e => nomatch e)) (nc_f h) nc_none (by decide) (by decide) (by decide), fun _ z => nomatch z⟩⟩⟩
  · refine (?_ : ∀ d ∈ dY3 q r, GoodP d) d hd
    have s1 : Nc 20 0 (.str "pair") := nc_str (by decide +kernel)
    have nb : Nc 28 1 (.tuple [.bool true, .int 1]) := (nc_tup (nca_cons (nc_bool true) (nca_cons (nc_i 1 (by decide)) nca_nil))).mono (by decide) (by decide)
    have gb : Good (.tuple [.bool true, .int 1]) := good_of nb (by decide) (by decide) rfl (by simp)
    refine List.forall_mem_cons.mpr ⟨goodP_of s1 (by decide) (by decide) (fun _ _ e => nomatch e) rfl (by decide +kernel), List.forall_mem_cons.mpr ⟨goodP_pr gb (g_ii 0 1 (by decide) (by decide)) nb (nc_ii 0 1 (by decide) (by decide)) (by decide) (by decide) (by decide), ?_⟩⟩
    exact List.forall_mem_cons.mpr ⟨goodP_pr (g_pD h h') (g_pD h h') (nc_pD h h') (nc_pD h h') (by decide) (by decide) (by decide), List.forall_mem_cons.mpr ⟨goodP_of (nc_lst (nca_cons (nc_pD h h') nca_nil)) (by decide) (by decide) (fun _ _ e => nomatch e), List.forall_mem_cons.mpr ⟨goodP_pr (g_ii 0 1 (by decide) (by decide)) (g_ii 0 (-1) (by decide) (by decide)) (nc_ii 0 1 (by decide) (by decide)) (nc_ii 0 (-1) (by decide) (by decide)) (by decide) (by decide) (by decide), fun _ z => nomatch z⟩⟩⟩
theorem noY {q r : Rat} : ∀ d ∈ dY1 q r ++ dY2 q r ++ dY3 q r, prB d = false := by
  intro d hd
  simp only [dY1, dY2, dY3, List.cons_append, List.nil_append, List.append_assoc, List.mem_cons, List.not_mem_nil, or_false] at hd
  rcases hd with rfl | rfl | rfl | rfl | rfl | rfl | rfl | rfl | rfl | rfl | rfl | rfl | rfl | rfl | rfl | rfl | rfl <;> first | rfl | (simp [prB, frB, dL12, frd, pairD] <;> decide)
section
variable {K : PySem.W.Frag} {p : Addr} {σ : L2.St} {H H' : Hp} {v : V} {q r : Rat} {b : Nat}
theorem ed_12 {o : HO} (hh : H p = some o) : EvD K p tL12 σ H dL12 := ed_lst hh (eds_cons ed_I (eds_cons ed_I eds_nil)) (by show 2 ≤ 1000; decide)
theorem mY1 {o : HO} (hh : H p = some o) (hv : σ[1]? = some (some v)) (h : Pr K b q r v H) : EvDs K p (tY1 K) σ H (dY1 q r) := by
  unfold tY1 dY1
  exact eds_cons (ed_P (ed_12 hh) (ed_p1 hv h)) (eds_cons (ed_P (ed_p0 hv h) (ed_12 hh)) (eds_cons ed_none (eds_cons ed_I (eds_cons (ed_tup eds_nil (by show 0 ≤ 1000; decide)) (eds_cons (ed_sl hv h) (eds_cons (ed_cat hv h) eds_nil))))))
theorem mY2 {o : HO} (hh : H p = some o) (hv : σ[1]? = some (some v)) (h : Pr K b q r v H) : EvDs K p (tY2 K) σ H (dY2 q r) := by
  unfold tY2 dY2
  exact eds_cons (ed_ls hh hv h) (eds_cons (ed_P (ed_p0 hv h) (ed_P ed_I ed_I)) (eds_cons (ed_P (ed_P ed_I ed_I) (ed_p1 hv h)) (eds_cons (ed_P ed_I ed_I) (eds_cons (ed_P (ed_p0 hv h) ed_none) eds_nil))))
theorem mY3 {o : HO} (hh : H p = some o) (hv : σ[1]? = some (some v)) (h : Pr K b q r v H) : EvDs K p tY3 σ H (dY3 q r) := by
  unfold tY3 dY3
  exact eds_cons ed_str (eds_cons (ed_P (ed_P ed_bool ed_I) (ed_P ed_I ed_I)) (eds_cons (ed_P (ed_pw hv h) (ed_pw hv h)) (eds_cons (ed_lst hh (eds_cons (ed_pw hv h) eds_nil) (by show 1 ≤ 1000; decide)) (eds_cons (ed_P (ed_P ed_I ed_I) (ed_P ed_I ed_N)) eds_nil))))
theorem Pr.lst {xs : List V} (hp : H p = some (.lst xs)) (e : ExB p H H') (h : Pr K b q r v H) : Pr K b q r v H' := by
  obtain ⟨a, x, y, rfl, hS, f, g⟩ := h
  exact ⟨a, x, y, rfl, tup_lst hp e hS, f.lst hp e, g.lst hp e⟩
end
theorem shortY {q r : Rat} : ∀ d ∈ dY1 q r ++ dY2 q r ++ dY3 q r, short d = true := by
  intro d hd
  simp only [dY1, dY2, dY3, List.cons_append, List.nil_append, List.append_assoc, List.mem_cons, List.not_mem_nil, or_false] at hd
  rcases hd with rfl | rfl | rfl | rfl | rfl | rfl | rfl | rfl | rfl | rfl | rfl | rfl | rfl | rfl | rfl | rfl | rfl <;> first | rfl | decide +kernel | (simp [short, shortAll, frd, pairD, dL12]; done)
section
variable {K : PySem.W.Frag} {z p : Addr} {H H' : Hp} {u1 u2 u3 : V}
mutual
/-- such data lies at no list of three: it stays where that one changes -/
theorem Dq.by3 (hp : H p = some (.lst [u1, u2, u3])) (e : ExB p H H') : ∀ (d : PyData) (v : V), short d = true → Dq K z H v d → Dq K z H' v d
  | _, _, _, .non => .non
  | _, _, _, .bl b => .bl b
  | _, _, _, .int i => .int i
  | _, _, _, .str x => .str x
  | _, _, s, .lst (a := a) n m h hs => .lst n m (e _ _ (by
      rintro rfl
      rw [hp] at h
      cases h
      have l := hs.len
      simp only [short, Bool.and_eq_true, decide_eq_true_eq] at s
      have := s.1
      simp only [List.length_cons, List.length_nil] at l
      omega) h) (DqAll.by3 hp e _ _ (by simp only [short, Bool.and_eq_true] at s; exact s.2) hs)
  | _, _, s, .tup h hs => .tup (tup_lst hp e h) (DqAll.by3 hp e _ _ (by simpa [short] using s) hs)
  | _, _, s, .emp h => by simp [short] at s
theorem DqAll.by3 (hp : H p = some (.lst [u1, u2, u3])) (e : ExB p H H') : ∀ (ds : List PyData) (vs : List V), shortAll ds = true → DqAll K z H vs ds → DqAll K z H' vs ds
  | _, _, _, .nil => .nil
  | _, _, s, .cons h hs => by
    simp only [shortAll, Bool.and_eq_true] at s
    exact .cons (Dq.by3 hp e _ _ s.1 h) (DqAll.by3 hp e _ _ s.2 hs)
end
theorem Pen.three {a : Addr} {N : Nat} (h : Pen H p a N) : ∃ u1 u2 u3, H p = some (.lst [u1, u2, u3]) := by
  obtain ⟨cs, t, v, h1, _⟩ := h
  exact ⟨_, _, _, h1⟩
end
section
variable {P : Program} {w : World} {K : PySem.W.Frag} {mg : Str → Option Value} {base : Heap}
def spAnyP (K : PySem.W.Frag) : Sp := fun vs H Q _ => ∃ (p a z : Addr) (oz : HO) (N : Nat), vs = [.ref p] ∧ Pen H p a N ∧ N ≤ 890 ∧ H z = some oz ∧ ∀ v d H', ExB p H H' → Pen H' p a (N + 4) → Dq K z H' v d → short d = true → GoodP d → (prB d = true → Bd 4 (pq1 d) ∧ Bd 4 (pq2 d)) → Q v H'
theorem ok__law_any (T : Txt K mg) : FnOk P w K mg base CX0 5 T.d__law_any.a T.d__law_any.fd ["_law_pen"] (spAnyP K) := by
  refine T.d__law_any.F.ok sc__law_any (fun vs H Q E h => ?_) (fun cdv A outer s H vs Q E hr h => ?_)
  · obtain ⟨p, a, z, oz, N, rfl, _⟩ := h
    rfl
  · obtain ⟨p, a, z, oz, N, rfl, hp, hN, hz, k⟩ := h
    refine ⟨_, (pss_cons (ps_set (i := 1) sc__law_any.nd rfl (Or.inl rfl) (pe_tup (pa_cons (pe_call (ok__law_amount T) (hr.mono (by decide)) (by rfl) T.d__law_amount.g T.d__law_amount.F.kp T.d__law_amount.b .nil pass0 (pa_cons (pv 0) pa_nil)) (pa_cons (pe_call (ok__law_amount T) (hr.mono (by decide)) (by rfl) T.d__law_amount.g T.d__law_amount.F.kp T.d__law_amount.b .nil pass0 (pa_cons (pv 0) pa_nil)) pa_nil))))
      (pss_cons (ps_if (pt_cmpR op_gt (pe_call (ok__law_take T) (hr.mono (by decide)) (by rfl) T.d__law_take.g T.d__law_take.F.kp T.d__law_take.b .nil pass0 (pa_cons (pv 0) (pa_cons pe_int pa_nil))) pe_int (nomark _)) (pss_one (ps_ret (pv 1))) pss_nil)
      (pss_cons (ps_set (i := 2) sc__law_any.nd rfl (Or.inl rfl) (pe_lstN (pa_cons (pe_tup (pa_cons (pe_lstN (pa_cons pe_int (pa_cons pe_int pa_nil))) (pa_cons (pe_ix ix_tup (pv 1) pe_int (fun _ _ => rfl)) pa_nil))) (pa_cons (pe_tup (pa_cons (pe_ix ix_tup (pv 1) pe_int (fun _ _ => rfl)) (pa_cons (pe_lstN (pa_cons pe_int (pa_cons pe_int pa_nil))) pa_nil))) (pa_cons pe_non (pa_cons pe_int (pa_cons (pe_tup pa_nil) (pa_cons (pe_slice sl_tup (pv 1) po_none (po_some pe_int)) (pa_cons (pe_op op_catT (pv 1) (pe_slice sl_tup (pv 1) po_none (po_some pe_int))) pa_nil)))))))))
      (pss_cons (ps_set (i := 2) sc__law_any.nd rfl (Or.inl rfl) (pe_op op_cat (pv 2) (pe_lstN (pa_cons (pe_callTy call_listN (by rfl) T.n_list (by decide +kernel) (pa_cons (pv 1) pa_nil)) (pa_cons (pe_tup (pa_cons (pe_ix ix_tup (pv 1) pe_int (fun _ _ => rfl)) (pa_cons (pe_tup (pa_cons pe_int (pa_cons pe_int pa_nil))) pa_nil))) (pa_cons (pe_tup (pa_cons (pe_tup (pa_cons pe_int (pa_cons pe_int pa_nil))) (pa_cons (pe_ix ix_tup (pv 1) pe_int (fun _ _ => rfl)) pa_nil))) (pa_cons (pe_tup (pa_cons pe_int (pa_cons pe_int pa_nil))) (pa_cons (pe_tup (pa_cons (pe_ix ix_tup (pv 1) pe_int (fun _ _ => rfl)) (pa_cons pe_non pa_nil))) pa_nil))))))))
      (pss_cons (ps_set (i := 2) sc__law_any.nd rfl (Or.inl rfl) (pe_op op_cat (pv 2) (pe_lstN (pa_cons pe_str (pa_cons (pe_tup (pa_cons (pe_tup (pa_cons pe_bl (pa_cons pe_int pa_nil))) (pa_cons (pe_tup (pa_cons pe_int (pa_cons pe_int pa_nil))) pa_nil))) (pa_cons (pe_tup (pa_cons (pv 1) (pa_cons (pv 1) pa_nil))) (pa_cons (pe_lstN (pa_cons (pv 1) pa_nil)) (pa_cons (pe_tup (pa_cons (pe_tup (pa_cons pe_int (pa_cons pe_int pa_nil))) (pa_cons (pe_tup (pa_cons pe_int (pa_cons (pe_un un_neg pe_int) pa_nil))) pa_nil))) pa_nil))))))))
      (pss_one (ps_ret (pe_call (ok__law_one T) (hr.mono (by decide)) (by rfl) T.d__law_one.g T.d__law_one.F.kp T.d__law_one.b .nil pass0 (pa_cons (pv 0) (pa_cons (pv 2) pa_nil)))))))))), ?_⟩
    refine n_seq ?_
    refine ⟨_, rfl, p, a, N, rfl, hp, by omega, fun z1 q1 H1 eb1 hp1 f1 => ?_⟩
    refine ⟨_, rfl, p, a, N + 1, rfl, hp1, by omega, fun z2 q2 H2 eb2 hp2 f2 => ?_⟩
    obtain ⟨x1, hx1⟩ := hp1.hasP
    refine ⟨by show 2 ≤ sizeLine; decide, fun t ht => ?_⟩
    have xt := Ex.new (o := .tup [z1, z2]) ht
    have pr3 : Pr K 4 q1 q2 (.ref t) (upd H2 t (.tup [z1, z2])) := ⟨t, z1, z2, rfl, SqT.of upd_same, (f1.lst hx1 eb2).ex xt, f2.ex xt⟩
    have hp3 := hp2.ex xt
    have EB3 := (eb1.trans eb2).trans (Ex.b xt)
    have B1 := f1.bd
    have B2 := f2.bd
    generalize upd H2 t (.tup [z1, z2]) = H3 at pr3 hp3 EB3 ⊢
    obtain ⟨x3, hx3⟩ := hp3.hasP
    refine n_name ?_
    dsimp only
    refine n_seq ?_
    refine ⟨.ref p, rfl, p, a, 5, N + 2, rfl, hp3, by decide, by decide, by omega, fun r4 H4 _ _ eb4 hp4 => ?_⟩
    have pr4 := pr3.lst hx3 eb4
    have EB4 := EB3.trans eb4
    refine ⟨r4, 0, rfl, rfl, _, rfl, ite2 (fun _ => ?_) (fun _ => ?_)⟩
    · exact ⟨_, rfl, k _ (pairD q1 q2) H4 EB4 (hp4.mono (by omega)) pr4.dq rfl (gp_pD B1 B2) fun _ => ⟨by rw [show pq1 (pairD q1 q2) = q1 from frQ_frd q1]; exact B1, by rw [show pq2 (pairD q1 q2) = q2 from frQ_frd q2]; exact B2⟩⟩
    · refine n_next ?_
      obtain ⟨u1, u2, u3, hx3'⟩ := hp4.three
      obtain ⟨o4, hx4⟩ : ∃ o4, H4 z = some o4 := by
        by_cases h : z = p
        · exact ⟨_, h ▸ hx3'⟩
        · exact ⟨_, EB4 _ _ h hz⟩
      dsimp only
      refine n_seq ?_
      refine s_asgP (el_lst (K := K) (p := z) (tm := tY1 K) (ds := dY1 q1 q2) hx4 (mY1 (b := 4) hx4 rfl pr4) (by show 7 ≤ 900; decide)) fun v5 H5 e5 h5 => ?_
      dsimp only
      refine n_seq ?_
      refine s_asgP (el_cat (K := K) (p := z) (i := 2) (tm := tY2 K) (ds := dY1 q1 q2) (es := dY2 q1 q2) (e5 _ _ hx4) rfl h5.to0 (mY2 (b := 4) (e5 _ _ hx4) rfl (pr4.ex e5)) (by show 12 ≤ 900; decide)) fun v6 H6 e6 h6 => ?_
      dsimp only
      refine n_seq ?_
      have e56 := e5.trans e6
      refine s_asgP (el_cat (K := K) (p := z) (i := 2) (tm := tY3) (ds := dY1 q1 q2 ++ dY2 q1 q2) (es := dY3 q1 q2) (e56 _ _ hx4) rfl h6 (mY3 (b := 4) (e56 _ _ hx4) rfl (pr4.ex e56)) (by show 17 ≤ 900; decide)) fun v7 H7 e7 h7 => ?_
      obtain ⟨l, vs, rfl, n, hl, qs⟩ := h7
      have e57 := e56.trans e7
      have lv : vs.length = 17 := qs.len
      have hx7 := e57 _ _ hx3'
      have nlp : l ≠ p := by
        rintro rfl
        rw [hx7] at hl
        cases hl
        simp at lv
      refine ⟨_, rfl, _, rfl, p, a, l, vs, N + 3, rfl, hp4.ex e57, hl, nlp, by omega, by omega, by omega, fun x H8 hm eb8 hp8 => ?_⟩
      obtain ⟨d, hd, q⟩ := qs.mem x hm
      exact k x d H8 (EB4.trans ((Ex.b e57).trans eb8)) hp8 (Dq.by3 hx7 eb8 _ _ (shortY d hd) q) (shortY d hd) (goodY B1 B2 d hd) fun zz => absurd zz (by rw [noY d hd]; decide)
end
/-! ### the law's own judging of pairs -/
section
variable {K : PySem.W.Frag} {p : Addr} {H : Hp}
def tX0 (K : PySem.W.Frag) : TE := tOp (rIxT K) (tVar 1) (tC (.int 0))
def tX1 (K : PySem.W.Frag) : TE := tOp (rIxT K) (tVar 1) (tC (.int 1))
def tLen (K : PySem.W.Frag) (i : Nat) : TE := tCB (fun xs H_1 Q => ∃ p ys, xs = [V.ref p] ∧ (SqL K H_1 p ys ∨ SqT K H_1 p ys) ∧ Q (V.int (ys.length : Int)) H_1) (tCons (tVar i) tNil)
def tIsPart (K : PySem.W.Frag) : TS := tSeq (tIfS (tOr (tNot (tB (tCB (rIsi K) (tCons (tVar 1) (tCons (tC (.ty "tuple")) tNil))))) (tTest (tOp rNe (tLen K 1) (tC (.int 2))))) (tRet (tC (.bl false))) tNext)
  (tSeq (tIfS (tOr (tNot (tB (tCall (spIsD K Any isWh) [] E0 (tCons (tX0 K) tNil)))) (tOr (tNot (tB (tCall (spIsD K Any isWh) [] E0 (tCons (tX1 K) tNil)))) (tTest (tOp (rI0 fun i j => .bl (decide (i < j))) (tX1 K) (tC (.int 1)))))) (tRet (tC (.bl false))) tNext)
    (tIfS (tTest (tOp (rNeD K) (tCall (spLowL K) [] E0 (tCons (tX0 K) (tCons (tX1 K) tNil))) (tVar 1))) (tRet (tC (.bl false))) tNext))
theorem is_part {D : Ends} {v0 v : V} {d : PyData} (hd : Dq K p H v d) (hg : Good d) (k1 : frB d = true → ∀ H', Ex H H' → D.nx [some v0, some v] H') (k2 : frB d = false → ∀ H', Ex H H' → D.rt (.bl false) H') : tIsPart K D [some v0, some v] H := by
  have hsm := hg.sm
  by_cases ht : isTup d = true
  · cases hd with
    | @tup a xs ds hS hA =>
      by_cases h2 : xs.length = 2
      · have h2' := h2
        rw [hA.len] at h2'
        obtain ⟨x1, x2, rfl⟩ : ∃ x1 x2, xs = [x1, x2] := match xs, h2 with | [x1, x2], _ => ⟨x1, x2, rfl⟩
        obtain ⟨d1, d2, rfl⟩ : ∃ d1 d2, ds = [d1, d2] := match ds, h2' with | [d1, d2], _ => ⟨d1, d2, rfl⟩
        have hD : Dq K p H (.ref a) (.tuple [d1, d2]) := .tup hS hA
        obtain ⟨q1, q2⟩ : Dq K p H x1 d1 ∧ Dq K p H x2 d2 := by
          cases hA with
          | cons a b =>
            cases b with
            | cons b c => exact ⟨a, b⟩
        have i1 : ∀ {H'}, Ex H H' → Ev (tX0 K) [some v0, some (.ref a)] H' x1 := fun e => ev_op (ev_var rfl) ev_c (rv_ixT (ex_t e hS) rfl)
        have i2 : ∀ {H'}, Ex H H' → Ev (tX1 K) [some v0, some (.ref a)] H' x2 := fun e => ev_op (ev_var rfl) ev_c (rv_ixT (ex_t e hS) rfl)
        refine n_seq ?_
        refine s_if (b := false) (et_is (et_or (et_not (et_B (ev_isi rfl hD (kit_tup _)))) fun _ => et_test (fun H1 e Q k => ⟨_, rfl, a, _, rfl, .inr (ex_t e hS), rfl, k H1 (Ex.refl H1)⟩)) rfl) (fun z => nomatch z) fun _ H1 e1 => ?_
        refine n_next ?_
        dsimp only
        refine n_seq ?_
        by_cases w1 : isWh d1 = true
        · by_cases w2 : isWh d2 = true
          · obtain ⟨g1, g2⟩ := q1.ival w1
            obtain ⟨g3, g4⟩ := q2.ival w2
            generalize ival d1 = n at g1 g2
            generalize ival d2 = m at g3 g4
            subst g1 g2 g3 g4
            obtain ⟨b1, b2⟩ := hsm n m rfl
            refine s_if (b := decide (m < 1)) (et_is (et_or (et_not (et_B (ev_isD (p := p) (i1 e1) (.int n) trivial))) fun _ => et_or (et_not (et_B (ev_isD (p := p) (i2 e1) (.int m) trivial))) fun _ => et_test (ev_op (i2 e1) ev_c rv_I0)) (by simp [isWh])) (fun z H2 e2 => ?_) (fun z H2 e2 => ?_)
            · have z' : m < 1 := of_decide_eq_true z
              refine k2 ?_ H2 (e1.trans e2)
              show (decide (0 < m) && _) = false
              rw [decide_eq_false (by omega), Bool.false_and]
            · have z' : ¬ m < 1 := of_decide_eq_false z
              have hm : 0 < m := by omega
              have e12 := e1.trans e2
              refine n_next ?_
              dsimp only
              have fb : frB (.tuple [.int n, .int m]) = decide (Nat.gcd n.natAbs m.natAbs = 1) := by
                show (decide (0 < m) && _) = _
                rw [decide_eq_true hm, Bool.true_and]
              refine s_if (b := !decide (Nat.gcd n.natAbs m.natAbs = 1)) (et_test (fun H3 e3 Q kk => ?_)) (fun z H3 e3 => ?_) (fun z H3 e3 => ?_)
              · refine (ep_LowL (b := 1000) (i1 e12) (i2 e12) (by omega) b1 b2 (by decide) rfl) H3 e3 _ fun x H4 e4 g => ?_
                refine ⟨_, rfl, frd (Rat.divInt n m), .tuple [.int n, .int m], g.dp, .tup (ex_t (e12.trans (e3.trans e4)) hS) (.cons (.int _) (.cons (.int _) .nil)), rfl, rfl, ?_⟩
                rw [eqv_low hm]
                exact kk H4 e4
              · exact k2 (by rw [fb]; simpa using z) H3 (e12.trans e3)
              · exact k1 (by rw [fb]; simpa using z) H3 (e12.trans e3)
          · refine s_if (b := true) (et_is (et_or (et_not (et_B (ev_isD (i1 e1) (Dq.ex e1 _ _ q1) trivial))) fun _ => et_or (b := false) (et_not (et_B (ev_isD (i2 e1) (Dq.ex e1 _ _ q2) trivial))) fun z => absurd z (by simpa using w2)) (by simp [w1, w2])) (fun _ H2 e2 => ?_) (fun z => nomatch z)
            refine k2 ?_ H2 (e1.trans e2)
            cases d1 with
            | int n =>
              cases d2 with
              | int m => exact absurd rfl w2
              | _ => rfl
            | _ => rfl
        · refine s_if (b := true) (et_is (et_or (b := false) (et_not (et_B (ev_isD (i1 e1) (Dq.ex e1 _ _ q1) trivial))) fun z => absurd z (by simpa using w1)) (by simp [w1])) (fun _ H2 e2 => ?_) (fun z => nomatch z)
          refine k2 ?_ H2 (e1.trans e2)
          cases d1 with
          | int n => exact absurd rfl w1
          | _ => rfl
      · refine n_seq ?_
        refine s_if (b := true) (et_is (et_or (et_not (et_B (ev_isi rfl (.tup hS hA) (kit_tup _)))) fun _ => et_test (fun H1 e Q k => ⟨_, rfl, a, _, rfl, .inr (ex_t e hS), rfl, k H1 (Ex.refl H1)⟩)) ?_) (fun _ H1 e1 => ?_) (fun z => nomatch z)
        · have : ¬ V.int (xs.length : Int) = V.int 2 := fun z => h2 (by
            have := V.int.inj z
            omega)
          simp [isTup, this]
        · refine k2 ?_ H1 e1
          have := hA.len
          match ds, this with
          | [], _ => rfl
          | [_], _ => simp [frB]
          | [_, _], h => exact absurd h h2
          | _ :: _ :: _ :: _, _ => simp [frB]
    | _ => cases ht
  · have e : frB d = false := by
      cases d <;> (first | rfl | exact absurd rfl ht)
    have ht' : isTup d = false := by simpa using ht
    refine n_seq ?_
    refine s_if (b := true) (et_is (et_or (b := false) (et_not (et_B (ev_isi rfl hd (kit_tup d)))) fun z => ?_) ?_) (fun _ H1 e1 => ?_) (fun z => nomatch z)
    · rw [ht'] at z
      cases z
    · rw [ht']
      rfl
    · exact k2 e H1 e1
end
section
variable {P : Program} {w : World} {K : PySem.W.Frag} {mg : Str → Option Value} {base : Heap}
theorem ok__law_is (T : Txt K mg) : FnOk P w K mg base CX0 3 T.d__law_is.a T.d__law_is.fd ["_law_value"] (spIsD K GoodP prB) := by
  refine T.d__law_is.F.ok sc__law_is (fun vs H Q E h => ?_) (fun cdv A outer s H vs Q E hr h => ?_)
  · obtain ⟨p, v, d, rfl, _⟩ := h
    rfl
  · obtain ⟨p, v, d, rfl, hd, hg, k⟩ := h
    refine ⟨_, (pss_cons (ps_if (PW.pt (pw_or (pt_not (pt_val (pe_callB call_isi (by rfl) T.n_isinstance (by decide +kernel) (pa_cons (pv 0) (pa_cons (pe_bltn (v := .ty "tuple") (by rfl) T.n_tuple (by decide +kernel) rfl) pa_nil))))) (pw_or1 (pt_cmpR op_ne (pe_callB call_len_seq (by rfl) T.n_len (by decide +kernel) (pa_cons (pv 0) pa_nil)) pe_int (nomark _))))) (pss_one (ps_ret pe_bl)) pss_nil)
      (pss_cons (ps_for PassesOwn.never rfl (pi_tup (pv 0)) (pg_name (i := 1) sc__law_is.nd rfl (Or.inl rfl)) (pss_cons (ps_if (PW.pt (pw_or (pt_not (pt_val (pe_callB call_isi (by rfl) T.n_isinstance (by decide +kernel) (pa_cons (pv 1) (pa_cons (pe_bltn (v := .ty "tuple") (by rfl) T.n_tuple (by decide +kernel) rfl) pa_nil))))) (pw_or1 (pt_cmpR op_ne (pe_callB call_len_seq (by rfl) T.n_len (by decide +kernel) (pa_cons (pv 1) pa_nil)) pe_int (nomark _))))) (pss_one (ps_ret pe_bl)) pss_nil)
      (pss_cons (ps_if (PW.pt (pw_or (pt_not (pt_val (pe_call (ok__law_is_whole T) (hr.mono (by decide)) (by rfl) T.d__law_is_whole.g T.d__law_is_whole.F.kp T.d__law_is_whole.b .nil pass0 (pa_cons (pe_ix ix_tup (pv 1) pe_int (fun _ _ => rfl)) pa_nil)))) (pw_or (pt_not (pt_val (pe_call (ok__law_is_whole T) (hr.mono (by decide)) (by rfl) T.d__law_is_whole.g T.d__law_is_whole.F.kp T.d__law_is_whole.b .nil pass0 (pa_cons (pe_ix ix_tup (pv 1) pe_int (fun _ _ => rfl)) pa_nil)))) (pw_or1 (pt_cmpR op_lt (pe_ix ix_tup (pv 1) pe_int (fun _ _ => rfl)) pe_int (nomark _)))))) (pss_one (ps_ret pe_bl)) pss_nil)
      (pss_one (ps_if (pt_cmpR (op_neD hr.units) (pe_call (ok__law_low T) (hr.mono (by decide)) (by rfl) T.d__law_low.g T.d__law_low.F.kp T.d__law_low.b .nil pass0 (pa_cons (pe_ix ix_tup (pv 1) pe_int (fun _ _ => rfl)) (pa_cons (pe_ix ix_tup (pv 1) pe_int (fun _ _ => rfl)) pa_nil))) (pv 1) (nomark _)) (pss_one (ps_ret pe_bl)) pss_nil)))))
      (pss_one (ps_ret pe_bl)))), ?_⟩
    refine n_seq ?_
    by_cases ht : isTup d = true
    · cases hd with
      | @tup a xs ds hS hA =>
        by_cases h2 : xs.length = 2
        · have h2' := h2
          rw [hA.len] at h2'
          obtain ⟨x1, x2, rfl⟩ : ∃ x1 x2, xs = [x1, x2] := match xs, h2 with | [x1, x2], _ => ⟨x1, x2, rfl⟩
          obtain ⟨d1, d2, rfl⟩ : ∃ d1 d2, ds = [d1, d2] := match ds, h2' with | [d1, d2], _ => ⟨d1, d2, rfl⟩
          have hD : Dq K p H (.ref a) (.tuple [d1, d2]) := .tup hS hA
          obtain ⟨g1, g2⟩ := hg.pt d1 d2 rfl
          obtain ⟨q1, q2⟩ : Dq K p H x1 d1 ∧ Dq K p H x2 d2 := by
            cases hA with
            | cons a b =>
              cases b with
              | cons b c => exact ⟨a, b⟩
          refine s_if (b := false) (et_is (et_or (et_not (et_B (ev_isi rfl hD (kit_tup _)))) fun _ => et_test (fun H1 e Q k => ⟨_, rfl, a, _, rfl, .inr (ex_t e hS), rfl, k H1 (Ex.refl H1)⟩)) rfl) (fun z => nomatch z) fun _ H1 e1 => ?_
          refine n_next ?_
          dsimp only
          refine n_seq ?_
          refine ⟨.ref a, rfl, a, rfl, ⟨_, ex_t e1 hS⟩, ?_⟩
          refine for_tup (K := K) (a := a) (xs := [x1, x2]) (fun i σ H' => (∃ s1, σ = [some (.ref a), s1]) ∧ Ex H H' ∧ (1 ≤ i → frB d1 = true) ∧ (2 ≤ i → frB d2 = true)) ⟨⟨none, rfl⟩, e1, fun z => by omega, fun z => by omega⟩ (fun i σ H' _ h => ex_t h.2.1 hS) ?_ ?_
          · rintro i y σ H2 hi ⟨⟨s1, rfl⟩, e2, c1, c2⟩
            have hi2 : i = 0 ∨ i = 1 := by
              have : i < 2 := (List.getElem?_eq_some_iff.mp hi).1
              omega
            refine n_name ?_
            rcases hi2 with rfl | rfl
            · obtain rfl : x1 = y := Option.some.inj hi
              refine is_part (K := K) (p := p) (Dq.ex e2 _ _ q1) g1 (fun f H3 e3 => ⟨⟨_, rfl⟩, e2.trans e3, fun _ => f, fun z => by omega⟩) fun f H3 e3 => ?_
              have e : prB (.tuple [d1, d2]) = false := by
                show (frB d1 && frB d2) = false
                rw [f, Bool.false_and]
              rw [e] at k
              exact k H3 (e2.trans e3)
            · obtain rfl : x2 = y := Option.some.inj hi
              refine is_part (K := K) (p := p) (Dq.ex e2 _ _ q2) g2 (fun f H3 e3 => ⟨⟨_, rfl⟩, e2.trans e3, fun _ => c1 (by omega), fun _ => f⟩) fun f H3 e3 => ?_
              have e : prB (.tuple [d1, d2]) = false := by
                show (frB d1 && frB d2) = false
                rw [f, Bool.and_false]
              rw [e] at k
              exact k H3 (e2.trans e3)
          · rintro σ H2 ⟨_, e2, c1, c2⟩
            have e : prB (.tuple [d1, d2]) = true := by
              show (frB d1 && frB d2) = true
              rw [c1 (by show 1 ≤ 2; decide), c2 (by show 2 ≤ 2; decide)]
              rfl
            rw [e] at k
            exact k H2 e2
        · refine s_if (b := true) (et_is (et_or (et_not (et_B (ev_isi rfl (.tup hS hA) (kit_tup _)))) fun _ => et_test (fun H1 e Q k => ⟨_, rfl, a, _, rfl, .inr (ex_t e hS), rfl, k H1 (Ex.refl H1)⟩)) ?_) (fun _ H1 e1 => ?_) (fun z => nomatch z)
          · have : ¬ V.int (xs.length : Int) = V.int 2 := fun z => h2 (by
              have := V.int.inj z
              omega)
            simp [isTup, this]
          · have e : prB (.tuple ds) = false := by
              have := hA.len
              match ds, this with
              | [], _ => rfl
              | [_], _ => rfl
              | [_, _], h => exact absurd h h2
              | _ :: _ :: _ :: _, _ => rfl
            rw [e] at k
            exact k H1 e1
      | _ => cases ht
    · have e : prB d = false := by
        cases d <;> (first | rfl | exact absurd rfl ht)
      have ht' : isTup d = false := by simpa using ht
      refine s_if (b := true) (et_is (et_or (b := false) (et_not (et_B (ev_isi rfl hd (kit_tup d)))) fun z => ?_) ?_) (fun _ H1 e1 => ?_) (fun z => nomatch z)
      · rw [ht'] at z
        cases z
      · rw [ht']
        rfl
      · rw [e] at k
        exact k H1 e1
end
/-! ### the call -/
theorem ifT {c : Bool} {A B : Prop} (h : c = true) (x : A) : if c = true then A else B := by
  rw [if_pos h]
  exact x
theorem ifF {c : Bool} {A B : Prop} (h : c = false) (x : B) : if c = true then A else B := by
  rw [h]
  exact iteF x
/-- what comes of a call: an error (of a pair, else of a fraction) with its value, or a result -/
abbrev Out := Sum (Bool × V × PyData) PyData
def cmpOut (x : Str) (u v : V) (d e : PyData) : Out := if prB d = false then .inl (true, u, d) else if prB e = false then .inl (true, v, e) else
  .inr (.bool (if x = "ahead" then decide (0 < turnQ (pq1 d) (pq2 d) (pq1 e) (pq2 e)) else decide (turnQ (pq1 d) (pq2 d) (pq1 e) (pq2 e) = 0)))
def sprOut (u v : V) (d e : PyData) : Out := if prB d = false then .inl (true, u, d) else if frB e = false then .inl (false, v, e) else .inr (pairD (pq1 d * frQ e) (pq2 d * frQ e))
def firstBad : List V → List PyData → Option (V × PyData)
  | x :: xs, d :: ds => if prB d = true then firstBad xs ds else some (x, d)
  | _, _ => none
def totOut (xs : List V) (ds : List PyData) : Out := match firstBad xs ds with
  | some (x, d) => .inl (true, x, d)
  | none => .inr (pairD ((qsOf ds).map fun q => q.1).sum ((qsOf ds).map fun q => q.2).sum)
theorem firstBad_some : ∀ {xs : List V} {ds : List PyData} (i : Nat) (x : V) (d : PyData), xs[i]? = some x → ds[i]? = some d → prB d = false → (∀ j d', j < i → ds[j]? = some d' → prB d' = true) → firstBad xs ds = some (x, d)
  | y :: ys, e :: es, 0, x, d, h1, h2, hp, _ => by
    cases h1
    cases h2
    unfold firstBad
    rw [if_neg (by rw [hp]; decide)]
  | y :: ys, e :: es, i + 1, x, d, h1, h2, hp, pre => by
    unfold firstBad
    rw [if_pos (pre 0 e (Nat.succ_pos _) rfl)]
    exact firstBad_some i x d h1 h2 hp fun j d' hj hd => pre (j + 1) d' (Nat.succ_lt_succ hj) hd
  | [], _, i, x, d, h1, _, _, _ => by cases i <;> cases h1
  | _ :: _, [], i, x, d, _, h2, _, _ => by cases i <;> cases h2
theorem firstBad_none : ∀ {xs : List V} {ds : List PyData}, (∀ d ∈ ds, prB d = true) → firstBad xs ds = none
  | y :: ys, e :: es, h => by
    unfold firstBad
    rw [if_pos (h e List.mem_cons_self)]
    exact firstBad_none fun d hd => h d (List.mem_cons_of_mem _ hd)
  | [], _, _ => by unfold firstBad; rfl
  | _ :: _, [], _ => by unfold firstBad; rfl
/-- what a call is due to give -/
def Due (K : PySem.W.Frag) (p : Addr) (H : Hp) (x : Str) (u v : V) (o : Out) : Prop :=
  ((x = "ahead" ∨ x = "level") ∧ ∃ d e, Dq K p H u d ∧ Dq K p H v e ∧ GoodP d ∧ GoodP e ∧ o = cmpOut x u v d e) ∨
  (x = "total" ∧ ∃ a xs ds, u = .ref a ∧ (SqL K H a xs ∨ SqT K H a xs) ∧ DqAll K p H xs ds ∧ (∀ d ∈ ds, GoodP d) ∧ ds.length ≤ 20 ∧ o = totOut xs ds) ∨
  (x = "spread" ∧ ∃ d e, Dq K p H u d ∧ Dq K p H v e ∧ GoodP d ∧ Good e ∧ o = sprOut u v d e)
def EndO (K : PySem.W.Frag) (R B T p : Addr) (H : Hp) (Q : VK) (E : XK) : Out → Prop
  | .inl (true, y, _) => Er R y H E
  | .inl (false, y, _) => Er B y H E
  | .inr D => ∀ z H', ExB T H H' → GxR.TabG H' T → Dq K p H' z D → Q z H'
section
variable {P : Program} {w : World} {K : PySem.W.Frag} {mg : Str → Option Value} {base : Heap}
def spCallU (K : PySem.W.Frag) (R B T : Addr) : Sp := fun vs H Q E => ∃ (p : Addr) (x : Str) (u v : V) (o : Out), vs = [.str x, u, v] ∧ Due K p H x u v o ∧ GxR.TabG H T ∧ EndO K R B T p H Q E o
theorem ok__law_call (T : Txt K mg) (tb : GxR.TabB base mg T.c_add_all T.P_add_all) : FnOk P w K mg base (L2.CX P w) 7 T.d__law_call.a T.d__law_call.fd ["_law_word", "_law_one_here", "_law_other"] (spCallU K T.E_BadPair.C T.E_BadFraction.C T.P_add_all) := by
  refine T.d__law_call.F.okX sc__law_call (fun vs H Q E h => ?_) (fun cdv A outer s H vs Q E hr h => ?_)
  · obtain ⟨p, x, u, v, o, rfl, _⟩ := h
    rfl
  · obtain ⟨p, x, u, v, o, rfl, hd, ht, k⟩ := h
    refine ⟨_, (pss_cons (ps_if (pt_cmpR op_eq (pv 0) pe_str (nomark _)) (pss_one (ps_ret (pe_call (ok_is_ahead T) (hr.mono (by decide)) (by rfl) T.d_is_ahead.g T.d_is_ahead.F.kp T.d_is_ahead.b .nil (passes_call (takes_of rfl rfl rfl rfl) fun _ _ _ _ h => h) (pa_cons (pv 1) (pa_cons (pv 2) pa_nil))))) pss_nil)
      (pss_cons (ps_if (pt_cmpR op_eq (pv 0) pe_str (nomark _)) (pss_one (ps_ret (pe_call (ok_are_level T) (hr.mono (by decide)) (by rfl) T.d_are_level.g T.d_are_level.F.kp T.d_are_level.b .nil (passes_call (takes_of rfl rfl rfl rfl) fun _ _ _ _ h => h) (pa_cons (pv 1) (pa_cons (pv 2) pa_nil))))) pss_nil)
      (pss_one (ps_ret (pe_ifExp (pt_cmpR op_eq (pv 0) pe_str (nomark _)) (pe_call (ok_total T tb) (hr.mono (by decide)) (by rfl) T.d_total.g T.d_total.F.kp T.d_total.b .nil (passes_call (takes_of rfl rfl rfl rfl) fun _ _ _ _ h => h) (pa_cons (pv 1) pa_nil)) (pe_call (ok_spread T) (hr.mono (by decide)) (by rfl) T.d_spread.g T.d_spread.F.kp T.d_spread.b .nil (passes_call (takes_of rfl rfl rfl rfl) fun _ _ _ _ h => h) (pa_cons (pv 1) (pa_cons (pv 2) pa_nil)))))))), ?_⟩
    rcases hd with ⟨hx, d, e, hu, hv, gd', ge, rfl⟩ | ⟨rfl, a, xs, ds, rfl, hS, hA, hg, hl, rfl⟩ | ⟨rfl, d, e, hu, hv, gd', ge, rfl⟩
    · have fin : ∀ {f : Rat → Prop} [DecidablePred f], (∀ h1 : prB d = true, ∀ h2 : prB e = true, cmpOut x u v d e = .inr (.bool (decide (f (turnQ (pq1 d) (pq2 d) (pq1 e) (pq2 e)))))) →
          (prB d = false → Er T.E_BadPair.C u H E) ∧ (prB d = true → prB e = false → Er T.E_BadPair.C v H E) ∧ (prB d = true → prB e = true → ∀ H', Ex H H' → Q (.bl (decide (f (turnQ (pq1 d) (pq2 d) (pq1 e) (pq2 e))))) H') := by
        intro f _ hf
        refine ⟨fun h => ?_, fun h h2 => ?_, fun h h2 H' ex => ?_⟩
        · have z : cmpOut x u v d e = .inl (true, u, d) := by unfold cmpOut; rw [if_pos h]
          rw [z] at k
          exact k
        · have z : cmpOut x u v d e = .inl (true, v, e) := by unfold cmpOut; rw [if_neg (by rw [h]; decide), if_pos h2]
          rw [z] at k
          exact k
        · rw [hf h h2] at k
          exact k _ H' (Ex.b ex) (tab_ex ht ex) (.bl _)
      have un : ∀ h1 : prB d = true, ∀ h2 : prB e = true, cmpOut x u v d e = .inr (.bool (if x = "ahead" then decide (0 < turnQ (pq1 d) (pq2 d) (pq1 e) (pq2 e)) else decide (turnQ (pq1 d) (pq2 d) (pq1 e) (pq2 e) = 0))) := fun h1 h2 => by
        unfold cmpOut
        rw [if_neg (by rw [h1]; decide), if_neg (by rw [h2]; decide)]
      rcases hx with rfl | rfl
      · refine ⟨_, rfl, rfl, _, rfl, ifT (by decide) ?_⟩
        obtain ⟨k1, k2, k3⟩ := fin (f := fun t => 0 < t) fun h1 h2 => by rw [un h1 h2, if_pos rfl]
        exact ⟨u, rfl, v, rfl, p, u, v, d, e, rfl, hu, hv, gd'.b1, gd'.b2, ge.b1, ge.b2, k1, k2, k3⟩
      · refine ⟨_, rfl, rfl, _, rfl, ifF (by decide) ?_⟩
        refine ⟨_, rfl, rfl, _, rfl, ifT (by decide) ?_⟩
        obtain ⟨k1, k2, k3⟩ := fin (f := fun t => t = 0) fun h1 h2 => by rw [un h1 h2, if_neg (by decide)]
        exact ⟨u, rfl, v, rfl, p, u, v, d, e, rfl, hu, hv, gd'.b1, gd'.b2, ge.b1, ge.b2, k1, k2, k3⟩
    · refine ⟨_, rfl, rfl, _, rfl, ifF (by decide) ?_⟩
      refine ⟨_, rfl, rfl, _, rfl, ifF (by decide) ?_⟩
      refine ⟨_, rfl, rfl, _, rfl, ifT (by decide) ?_⟩
      have m : bitsP 100 ds.length ≤ 3000 := by
        unfold bitsP
        omega
      refine ⟨_, rfl, p, a, xs, ds, 100, rfl, hS, hA, fun d hd => ⟨(hg d hd).b1, (hg d hd).b2⟩, by omega, m, ht, fun i x d h1 h2 h3 h4 => ?_, fun all z H' eb t f => ?_⟩
      · have z : totOut xs ds = .inl (true, x, d) := by unfold totOut; rw [firstBad_some i x d h1 h2 h3 h4]
        rw [z] at k
        exact k
      · have z' : totOut xs ds = .inr (pairD ((qsOf ds).map fun q => q.1).sum ((qsOf ds).map fun q => q.2).sum) := by unfold totOut; rw [firstBad_none all]
        rw [z'] at k
        exact k z H' eb t f.dq
    · refine ⟨_, rfl, rfl, _, rfl, ifF (by decide) ?_⟩
      refine ⟨_, rfl, rfl, _, rfl, ifF (by decide) ?_⟩
      refine ⟨_, rfl, rfl, _, rfl, ifF (by decide) ?_⟩
      refine ⟨u, rfl, v, rfl, p, u, v, d, e, rfl, hu, hv, gd'.b1, gd'.b2, ge.fq, fun h => ?_, fun h h2 => ?_, fun h h2 z H' ex f => ?_⟩
      · have z : sprOut u v d e = .inl (true, u, d) := by unfold sprOut; rw [if_pos h]
        rw [z] at k
        exact k
      · have z : sprOut u v d e = .inl (false, v, e) := by unfold sprOut; rw [if_neg (by rw [h]; decide), if_pos h2]
        rw [z] at k
        exact k
      · have z' : sprOut u v d e = .inr (pairD (pq1 d * frQ e) (pq2 d * frQ e)) := by unfold sprOut; rw [if_neg (by rw [h]; decide), if_neg (by rw [h2]; decide)]
        rw [z'] at k
        exact k z H' (Ex.b ex) (tab_ex ht ex) f.dq
end
/-! ### what is told of a call -/
section
variable {K : PySem.W.Frag} {p T : Addr} {H H' : Hp}
mutual
theorem Dq.tb (ht : GxR.TabG H T) (e : ExB T H H') : ∀ (d : PyData) (v : V), Dq K p H v d → Dq K p H' v d
  | _, _, .non => .non
  | _, _, .bl b => .bl b
  | _, _, .int i => .int i
  | _, _, .str x => .str x
  | _, _, .lst n m h hs => .lst n m (e _ _ (tab_ne ht h fun _ z => nomatch z) h) (DqAll.tb ht e _ _ hs)
  | _, _, .tup h hs => .tup (tb_t ht e h) (DqAll.tb ht e _ _ hs)
  | _, _, .emp h => .emp (e _ _ (tab_ne ht h fun _ z => nomatch z) h)
theorem DqAll.tb (ht : GxR.TabG H T) (e : ExB T H H') : ∀ (ds : List PyData) (vs : List V), DqAll K p H vs ds → DqAll K p H' vs ds
  | _, _, .nil => .nil
  | _, _, .cons h hs => .cons (Dq.tb ht e _ _ h) (DqAll.tb ht e _ _ hs)
end
mutual
theorem Dp.ex (e : Ex H H') : ∀ (d : PyData) (v : V), Dp K H v d → Dp K H' v d
  | _, _, .non => .non
  | _, _, .bl b => .bl b
  | _, _, .int i => .int i
  | _, _, .str x => .str x
  | _, _, .lst h hs => .lst (ex_l e h) (DpAll.ex e _ _ hs)
  | _, _, .tup h hs => .tup (ex_t e h) (DpAll.ex e _ _ hs)
theorem DpAll.ex (e : Ex H H') : ∀ (ds : List PyData) (vs : List V), DpAll K H vs ds → DpAll K H' vs ds
  | _, _, .nil => .nil
  | _, _, .cons h hs => .cons (Dp.ex e _ _ h) (DpAll.ex e _ _ hs)
end
mutual
theorem Dp.tb (ht : GxR.TabG H T) (e : ExB T H H') : ∀ (d : PyData) (v : V), Dp K H v d → Dp K H' v d
  | _, _, .non => .non
  | _, _, .bl b => .bl b
  | _, _, .int i => .int i
  | _, _, .str x => .str x
  | _, _, .lst h hs => .lst (tb_l ht e h) (DpAll.tb ht e _ _ hs)
  | _, _, .tup h hs => .tup (tb_t ht e h) (DpAll.tb ht e _ _ hs)
theorem DpAll.tb (ht : GxR.TabG H T) (e : ExB T H H') : ∀ (ds : List PyData) (vs : List V), DpAll K H vs ds → DpAll K H' vs ds
  | _, _, .nil => .nil
  | _, _, .cons h hs => .cons (Dp.tb ht e _ _ h) (DpAll.tb ht e _ _ hs)
end
/-- repr of the two, as one tuple -/
theorem ev_two {σ : L2.St} {u v : V} {d e : PyData} {c k : Nat} (hu : Dp K H u d) (hv : Dp K H v e) (h1 : σ[1]? = some (some u)) (h2 : σ[2]? = some (some v)) (n : Nc c k (.tuple [d, e])) (hc : c ≤ 1000000) (hk : k ≤ 60) :
    Ev (tCB (rRepr K) (tCons (tTup (tCons (tVar 1) (tCons (tVar 2) tNil))) tNil)) σ H (.str (PyData.tuple [d, e]).shown) := fun H1 a Q q =>
  ⟨u, h1, v, h2, by show 2 ≤ sizeLine; decide, fun t ht => by
    have x := Ex.new (o := .tup [u, v]) ht
    exact ⟨_, .tuple [d, e], t, rfl, .inr (.tup (SqT.of upd_same) (.cons (Dp.ex (a.trans x) _ _ hu) (.cons (Dp.ex (a.trans x) _ _ hv) .nil))), n.sh, Nat.le_trans n.dp hk, Nat.le_trans (n.len hc) (Nat.le_trans hc (by decide)), q _ x⟩⟩
theorem Due.ex {x : Str} {u v : V} {o : Out} (e : Ex H H') (h : Due K p H x u v o) : Due K p H' x u v o := by
  rcases h with ⟨hx, d, e', hu, hv, r⟩ | ⟨rfl, a, xs, ds, rfl, hS, hA, r⟩ | ⟨rfl, d, e', hu, hv, r⟩
  · exact .inl ⟨hx, d, e', Dq.ex e _ _ hu, Dq.ex e _ _ hv, r⟩
  · exact .inr (.inl ⟨rfl, a, xs, ds, rfl, hS.imp (ex_l e) (ex_t e), DqAll.ex e _ _ hA, r⟩)
  · exact .inr (.inr ⟨rfl, d, e', Dq.ex e _ _ hu, Dq.ex e _ _ hv, r⟩)
end
def txtO : Out → Str
  | .inl (true, _, D) => "pair" ++ D.shown
  | .inl (false, _, D) => "fraction" ++ D.shown
  | .inr D => D.shown
/-- the data that is told: there, and short -/
def ValO (K : PySem.W.Frag) (p : Addr) (H : Hp) : Out → Prop
  | .inl (_, y, D) => Dq K p H y D ∧ Nc 1000 8 D
  | .inr D => Nc 9000 8 D
abbrev rCatS : R2 := fun x y H Q => ∃ i j, x = .str i ∧ y = .str j ∧ i.length + j.length ≤ sizeLine ∧ Q (.str (i ++ j)) H
def tb__law_told (K : PySem.W.Frag) (B R T : Addr) : WX → TS := fun W => tAsg (tCB (rRepr K) (tCons (tCallS (spCallU K R B T) (WE W) (tCons (tVar 0) (tCons (tVar 1) (tCons (tVar 2) tNil)))) tNil)) (gName 4)
def ts__law_told (K : PySem.W.Frag) (B R _T : Addr) : Addr → Value → Option Addr → TS := fun a cls dd => tIfS (tB (tCB (rIsD K a cls dd) (tCons (tVar 5) (tCons (tC (.ref R)) tNil)))) (tAsg (tOp rCatS (tC (.str "pair")) (tCB (rRepr K) (tCons (tXf a cls dd R "value" (tVar 5)) tNil))) (gName 4))
  (tAsg (tIf (tB (tCB (rIsD K a cls dd) (tCons (tVar 5) (tCons (tC (.ref B)) tNil)))) (tOp rCatS (tC (.str "fraction")) (tCB (rRepr K) (tCons (tXf a cls dd B "value" (tVar 5)) tNil))) (tC (.str "other"))) (gName 4))
section
variable {P : Program} {w : World} {K : PySem.W.Frag} {mg : Str → Option Value} {base : Heap}
def spTold (K : PySem.W.Frag) (T : Addr) : Sp := fun vs H Q _ => ∃ (p : Addr) (x : Str) (u v : V) (d e : PyData) (o : Out), vs = [.str x, u, v] ∧ Dp K H u d ∧ Dp K H v e ∧ Nc 40000 20 d ∧ Nc 40000 20 e ∧ Due K p H x u v o ∧ ValO K p H o ∧ GxR.TabG H T ∧
  ∀ H', ExB T H H' → GxR.TabG H' T → Q (.str (txtO o)) H'
theorem ok__law_told (T : Txt K mg) (tb : GxR.TabB base mg T.c_add_all T.P_add_all) : FnG P w K mg base 8 T.d__law_told.a T.d__law_told.fd ["_law_word", "_law_one_here", "_law_other"] (spTold K T.P_add_all) := by
  refine okG T.d__law_told.F sc__law_told (fun vs H Q E h => ?_) (fun cdv A outer s H vs Q gd hr h => ?_)
  · obtain ⟨p, x, u, v, d, e, o, rfl, _⟩ := h
    rfl
  · obtain ⟨p, x, u, v, d, e, o, rfl, hd, he, nd, ne, due, val, ht, k⟩ := h
    have hu := hr.units
    refine ⟨_, (pss_cons (ps_par (i := 3) (j := 4) (by rfl) sc__law_told.nd rfl rfl (by decide) rfl rfl (pa_cons (pe_callB (call_repr gd hu) (by rfl) T.n_repr (by decide +kernel) (pa_cons (pe_tup (pa_cons (pv 1) (pa_cons (pv 2) pa_nil))) pa_nil)) (pa_cons pe_str pa_nil)) (by rfl))
      (pss_cons (ps_try_as (i := 5) (tb := tb__law_told K T.E_BadFraction.C T.E_BadPair.C T.P_add_all) (ts := ts__law_told K T.E_BadFraction.C T.E_BadPair.C T.P_add_all) (Wout := fun _ _ _ _ => False) rfl rfl sc__law_told.nd rfl rfl ⟨by rfl, by decide, .inl T.M.g⟩ takes0 (fun W pn xe tk _ => (pss_one (ps_set (i := 4) sc__law_told.nd rfl (Or.inl rfl) (pe_callB (call_repr gd hu) (by rfl) T.n_repr (by decide +kernel) (pa_cons (pe_callS (ok__law_call T tb) (hr.mono (by decide)) (by rfl) T.d__law_call.g T.d__law_call.F.kp T.d__law_call.b (fun σ => passAt tk σ) (pa_cons (pv 0) (pa_cons (pv 1) (pa_cons (pv 2) pa_nil)))) pa_nil))))) (fun a oe cls d pn hz hf => (pss_one (ps_if (pt_val (pe_callB (call_isD hz hf) (by rfl) T.n_isinstance (by decide +kernel) (pa_cons (pv 5) (pa_cons (pe_glob (v := .ref T.E_BadPair.C) rfl T.E_BadPair.g rfl) pa_nil)))) (pss_one (ps_set (i := 4) sc__law_told.nd rfl (Or.inl rfl) (pe_op op_add_str pe_str (pe_callB (call_repr gd hu) (by rfl) T.n_repr (by decide +kernel) (pa_cons (pe_xf T.E_BadPair.x.xf T.E_BadPair.x.noV hz hf (pv 5)) pa_nil))))) (pss_one (ps_set (i := 4) sc__law_told.nd rfl (Or.inl rfl) (pe_ifExp (pt_val (pe_callB (call_isD hz hf) (by rfl) T.n_isinstance (by decide +kernel) (pa_cons (pv 5) (pa_cons (pe_glob (v := .ref T.E_BadFraction.C) rfl T.E_BadFraction.g rfl) pa_nil)))) (pe_op op_add_str pe_str (pe_callB (call_repr gd hu) (by rfl) T.n_repr (by decide +kernel) (pa_cons (pe_xf T.E_BadFraction.x.xf T.E_BadFraction.x.noV hz hf (pv 5)) pa_nil))) pe_str)))))))
      (pss_one (ps_ret (pe_ifExp (pt_cmpR op_eq (pe_callB (call_repr gd hu) (by rfl) T.n_repr (by decide +kernel) (pa_cons (pe_tup (pa_cons (pv 1) (pa_cons (pv 2) pa_nil))) pa_nil)) (pv 3) (nomark _)) (pv 4) pe_str))))), ?_⟩
    have NP : Nc 90000 25 (.tuple [d, e]) := (nc_tup (nca_cons nd (nca_cons ne nca_nil))).mono (by decide) (by decide)
    refine (ev_two hd he rfl rfl NP (by decide) (by decide)) H (Ex.refl H) _ fun H1 e1 => ?_
    refine ⟨_, _, rfl, ?_⟩
    have t1 := tab_ex ht e1
    dsimp only
    refine s_join (fun σ H' => σ = [some (.str x), some u, some v, some (.str (PyData.tuple [d, e]).shown), some (.str (txtO o)), none] ∧ ExB T.P_add_all H1 H' ∧ GxR.TabG H' T.P_add_all) (fun NX hNX => ?_) ?_
    · have b4 : (("pair" : String) : Str).length = 4 := by decide
      have b8 : (("fraction" : String) : Str).length = 8 := by decide
      have big : 1000008 ≤ sizeLine := by decide
      rcases o with ⟨b, y, D⟩ | D
      · obtain ⟨hy, ny⟩ := val
        have ln := ny.len (by decide)
        cases b with
        | true =>
          refine ⟨.str x, rfl, u, rfl, v, rfl, p, x, u, v, .inl (true, y, D), rfl, due.ex e1, t1, ?_⟩
          intro dd kn H' ex hdd
          refine ⟨true, T.E_BadPair.x.exm, fun _ a ha => ?_, fun z => nomatch z⟩
          refine ⟨.ref a, rfl, T.E_BadPair.C, T.E_BadPair.C, dd, _, true, rfl, rfl, T.E_BadPair.x.ec, rfl, hdd, kit_one _, true, rfl, iteT ?_⟩
          refine ⟨.ref a, rfl, rfl, rfl, dd, _, y, rfl, hdd, rfl, y, D, p, rfl, .inl (Dq.ex (e1.trans ex) _ _ hy), ny.sh, Nat.le_trans ny.dp (by decide), by omega, _, _, rfl, rfl, by omega, ?_⟩
          exact hNX _ _ ⟨rfl, Ex.b ex, tab_ex t1 ex⟩
        | false =>
          refine ⟨.str x, rfl, u, rfl, v, rfl, p, x, u, v, .inl (false, y, D), rfl, due.ex e1, t1, ?_⟩
          intro dd kn H' ex hdd
          refine ⟨true, T.E_BadFraction.x.exm, fun _ a ha => ?_, fun z => nomatch z⟩
          refine ⟨.ref a, rfl, T.E_BadFraction.C, T.E_BadPair.C, dd, _, false, rfl, rfl, T.E_BadFraction.x.ec, rfl, hdd, (T.E_BadFraction.x.other T.E_BadPair.x (by decide)), false, rfl, iteF ?_⟩
          refine ⟨.ref a, rfl, T.E_BadFraction.C, T.E_BadFraction.C, dd, _, true, rfl, rfl, T.E_BadFraction.x.ec, rfl, hdd, kit_one _, true, rfl, iteT ?_⟩
          refine ⟨.ref a, rfl, rfl, rfl, dd, _, y, rfl, hdd, rfl, y, D, p, rfl, .inl (Dq.ex (e1.trans ex) _ _ hy), ny.sh, Nat.le_trans ny.dp (by decide), by omega, _, _, rfl, rfl, by omega, ?_⟩
          exact hNX _ _ ⟨rfl, Ex.b ex, tab_ex t1 ex⟩
      · have ln := Nc.len val (by decide)
        refine ⟨.str x, rfl, u, rfl, v, rfl, p, x, u, v, .inr D, rfl, due.ex e1, t1, fun z H' eb t2 dz => ?_⟩
        refine ⟨z, _, p, rfl, .inl dz, val.sh, Nat.le_trans val.dp (by decide), by omega, ?_⟩
        exact hNX _ _ ⟨rfl, eb, t2⟩
    · rintro σ H2 ⟨rfl, eb, t2⟩
      refine s_ret (v := .str (txtO o)) (ev_if (b := true) (et_is (et_test (ev_op (ev_two (Dp.tb t1 eb _ _ (Dp.ex e1 _ _ hd)) (Dp.tb t1 eb _ _ (Dp.ex e1 _ _ he)) rfl rfl NP (by decide) (by decide)) (ev_var rfl) (rv_eq rfl))) (decide_eq_true rfl)) (fun _ => ev_var rfl) (fun z => nomatch z)) fun H3 e3 => k H3 (((Ex.b e1).trans eb).trans (Ex.b e3)) (tab_ex t2 e3)
end
/-! ### the first wrong one -/
section
variable {K : PySem.W.Frag} {p : Addr} {H : Hp}
mutual
theorem Dq.dp : ∀ (d : PyData) (v : V), d.hasDict = false → Dq K p H v d → Dp K H v d
  | _, _, _, .non => .non
  | _, _, _, .bl b => .bl b
  | _, _, _, .int i => .int i
  | _, _, _, .str x => .str x
  | _, _, h0, .lst n m h hs => .lst (SqL.of h) (DqAll.dp _ _ (by simpa [PyData.hasDict] using h0) hs)
  | _, _, h0, .tup h hs => .tup h (DqAll.dp _ _ (by simpa [PyData.hasDict] using h0) hs)
  | _, _, h0, .emp h => by simp [PyData.hasDict] at h0
theorem DqAll.dp : ∀ (ds : List PyData) (vs : List V), PyData.hasDictAll ds = false → DqAll K p H vs ds → DpAll K H vs ds
  | _, _, _, .nil => .nil
  | _, _, h0, .cons h hs => by
    simp only [PyData.hasDictAll, Bool.or_eq_false_iff] at h0
    exact .cons (Dq.dp _ _ h0.1 h) (DqAll.dp _ _ h0.2 hs)
end
end
theorem ev_bad4 {K : PySem.W.Frag} {p : Addr} {σ : L2.St} {H : Hp} {te : TE} {d : PyData} (h : EvD K p te σ H d) (n : Nc 1000 5 d) : Ev (tOp (fun x y H Q => ∃ i j, x = .str i ∧ y = .str j ∧ i.length + j.length ≤ sizeLine ∧ Q (.str (i ++ j)) H) (tC (.str "pair")) (tCB (rRepr K) (tCons te tNil))) σ H (.str ("pair" ++ d.shown)) :=
  ev_cat ev_c (ev_repr h n (by decide) (by decide)) (by
    have h1 := n.len (by decide)
    have h2 : (("pair" : String) : Str).length = 4 := by decide
    have h3 : 1004 ≤ sizeLine := by decide
    omega)
def fbV (xs : List V) (ds : List PyData) : V := match firstBad xs ds with
  | some (_, d) => .str ("pair" ++ d.shown)
  | none => .non
/-- those that are none, in their sequence -/
def bads : List V → List PyData → List (V × PyData)
  | x :: xs, d :: ds => if prB d = true then bads xs ds else (x, d) :: bads xs ds
  | _, _ => []
theorem bads_head : ∀ (xs : List V) (ds : List PyData), (bads xs ds).head? = firstBad xs ds
  | x :: xs, d :: ds => by
    unfold bads firstBad
    by_cases h : prB d = true
    · rw [if_pos h, if_pos h]
      exact bads_head xs ds
    · rw [if_neg h, if_neg h]
      rfl
  | [], _ => by unfold bads firstBad; rfl
  | _ :: _, [] => by unfold bads firstBad; rfl
theorem bads_take : ∀ (i : Nat) (xs : List V) (ds : List PyData) (x : V) (d : PyData), xs[i]? = some x → ds[i]? = some d → bads (xs.take (i + 1)) (ds.take (i + 1)) = bads (xs.take i) (ds.take i) ++ (if prB d = true then [] else [(x, d)])
  | 0, y :: ys, e :: es, x, d, h1, h2 => by
    cases h1
    cases h2
    show (if prB e = true then bads (ys.take 0) (es.take 0) else (y, e) :: bads (ys.take 0) (es.take 0)) = [] ++ _
    have z : bads (ys.take 0) (es.take 0) = [] := rfl
    rw [z, List.nil_append]
  | i + 1, y :: ys, e :: es, x, d, h1, h2 => by
    have ih := bads_take i ys es x d h1 h2
    show (if prB e = true then bads (ys.take (i + 1)) (es.take (i + 1)) else (y, e) :: bads (ys.take (i + 1)) (es.take (i + 1))) = (if prB e = true then bads (ys.take i) (es.take i) else (y, e) :: bads (ys.take i) (es.take i)) ++ _
    rw [ih]
    by_cases h : prB e = true
    · rw [if_pos h, if_pos h]
    · rw [if_neg h, if_neg h, List.cons_append]
  | i, [], _, x, d, h1, _ => by cases i <;> cases h1
  | i, _ :: _, [], x, d, _, h2 => by cases i <;> cases h2
theorem bads_len : ∀ (xs : List V) (ds : List PyData), (bads xs ds).length ≤ xs.length
  | x :: xs, d :: ds => by
    have := bads_len xs ds
    unfold bads
    by_cases h : prB d = true
    · rw [if_pos h, List.length_cons]
      omega
    · rw [if_neg h, List.length_cons, List.length_cons]
      omega
  | [], _ => by unfold bads; exact Nat.zero_le _
  | _ :: _, [] => by unfold bads; exact Nat.zero_le _
theorem bads_dq {K : PySem.W.Frag} {p : Addr} {H : Hp} : ∀ {xs : List V} {ds : List PyData}, DqAll K p H xs ds → DqAll K p H ((bads xs ds).map fun b => b.1) ((bads xs ds).map fun b => b.2)
  | _, _, .nil => .nil
  | _, _, .cons (d := d) h hs => by
    unfold bads
    by_cases z : prB d = true
    · rw [if_pos z]
      exact bads_dq hs
    · rw [if_neg z]
      exact .cons h (bads_dq hs)
theorem bads_good : ∀ {xs : List V} {ds : List PyData}, (∀ d ∈ ds, GoodP d) → ∀ b ∈ bads xs ds, GoodP b.2
  | x :: xs, d :: ds, h, b, hb => by
    unfold bads at hb
    by_cases z : prB d = true
    · rw [if_pos z] at hb
      exact bads_good (fun e he => h e (List.mem_cons_of_mem _ he)) b hb
    · rw [if_neg z] at hb
      rcases List.mem_cons.mp hb with rfl | hb
      · exact h d List.mem_cons_self
      · exact bads_good (fun e he => h e (List.mem_cons_of_mem _ he)) b hb
  | [], _, _, b, hb => by unfold bads at hb; cases hb
  | _ :: _, [], _, b, hb => by unfold bads at hb; cases hb
section
variable {P : Program} {w : World} {K : PySem.W.Frag} {mg : Str → Option Value} {base : Heap}
def spFB (K : PySem.W.Frag) : Sp := fun vs H Q _ => ∃ (p a : Addr) (xs : List V) (ds : List PyData), vs = [.ref a] ∧ SqL K H a xs ∧ DqAll K p H xs ds ∧ (∀ d ∈ ds, GoodP d) ∧ ds.length ≤ 20 ∧ ∀ H', Ex H H' → Q (fbV xs ds) H'
theorem ok__law_first_bad (T : Txt K mg) : FnG P w K mg base 4 T.d__law_first_bad.a T.d__law_first_bad.fd ["_law_values"] (spFB K) := by
  refine okG T.d__law_first_bad.F sc__law_first_bad (fun vs H Q E h => ?_) (fun cdv A outer s H vs Q gd hr h => ?_)
  · obtain ⟨p, a, xs, ds, rfl, _⟩ := h
    rfl
  · obtain ⟨p, a, xs, ds, rfl, hS, hA, hg, hl, k⟩ := h
    have hu := hr.units
    have xl : xs.length = ds.length := hA.len
    refine ⟨_, (pss_cons (ps_setLc (i := 1) (own := [("_law_value", 2)]) (g := gName 2) rfl sc__law_first_bad.nd rfl rfl (sw_true rfl rfl rfl (by decide +kernel)) (pi_list (pv 0)) (blkOk_by (own := [("_law_value", 2)]) (N := n__law_first_bad) (sc := defScope s__law_first_bad) (by decide +kernel)) (fun _ _ _ _ _ => pg_name (i := 2) sc__law_first_bad.nd rfl (Or.inl rfl)) (fun _ _ _ _ _ => pts_one (pt_not (pt_val (pe_call (ok__law_is T) (hr.mono (by decide)) (by rfl) T.d__law_is.g T.d__law_is.F.kp T.d__law_is.b .nil pass0 (pa_cons (pv 2) pa_nil))))) (fun _ _ _ _ _ => (pv 2)))
      (pss_one (ps_ret (pe_ifExp (pt_cmpR (op_neD hr.units) (pv 1) (pe_lst pa_nil) (nomark _)) (pe_op op_add_str pe_str (pe_callB (call_repr gd hu) (by rfl) T.n_repr (by decide +kernel) (pa_cons (pe_ix ix_list (pv 1) pe_int (fun _ _ => rfl)) pa_nil))) pe_non)))), ?_⟩
    refine n_seq ?_
    refine ⟨.ref a, rfl, a, rfl, ⟨_, hS⟩, fun D nD => ?_⟩
    refine lc_list (K := K) (a := a) (xs := xs) (fun i H' => Ex H H' ∧ H' D = some (.lst ((bads (xs.take i) (ds.take i)).map fun b => b.1))) ⟨Ex.new nD, upd_same⟩ (fun i H' _ h => ex_l h.1 hS) ?_ ?_
    · rintro i x H1 hx ⟨e1, h1⟩
      obtain ⟨d, hd, q⟩ := hA.at i x hx
      have g := hg d (List.mem_of_getElem? hd)
      refine ⟨rfl, ?_⟩
      have bt := bads_take i xs ds x d hx hd
      have il : i < xs.length := (List.getElem?_eq_some_iff.mp hx).1
      have bl := bads_len (xs.take i) (ds.take i)
      rw [List.length_take] at bl
      refine (et_not (et_B (ev_isD (p := p) (ev_var rfl) (Dq.ex e1 _ _ q) g))) H1 (Ex.refl H1) _ fun H2 e2 => ?_
      cases hz : prB d with
      | true =>
        rw [hz, if_pos rfl, List.append_nil] at bt
        refine iteF ?_
        exact ⟨e1.trans e2, by rw [bt]; exact e2 _ _ h1⟩
      | false =>
        rw [hz, if_neg (by decide)] at bt
        refine iteT ?_
        refine ⟨x, rfl, _, e2 _ _ h1, small1000 (by rw [List.length_map]; omega), Ex.mut (e1.trans e2) nD, ?_⟩
        rw [upd_same, bt, List.map_append]
        rfl
    · rintro H1 ⟨e1, h1⟩
      rw [List.take_length, show ds.take xs.length = ds by rw [xl, List.take_length]] at h1
      refine n_name ?_
      dsimp only
      have bq := bads_dq (DqAll.ex e1 _ _ hA)
      have bh := bads_head xs ds
      have bg := bads_good (xs := xs) hg
      generalize bads xs ds = B at h1 bq bh bg
      have fbe : fbV xs ds = (match B.head? with | some (_, d) => V.str ("pair" ++ d.shown) | none => V.non) := by
        unfold fbV
        rw [← bh]
      rw [fbe] at k
      have nds : PyData.hasDictAll (B.map fun b => b.2) = false := by
        clear h1 bq bh fbe k
        induction B with
        | nil => rfl
        | cons b B ih =>
          simp only [List.map_cons, PyData.hasDictAll, Bool.or_eq_false_iff]
          exact ⟨(bg b List.mem_cons_self).nd, ih fun c hc => bg c (List.mem_cons_of_mem _ hc)⟩
      have sh : SeqAt.shaped (.list (B.map fun b => b.2)) = true := by
        have h : PyData.canLayAll0 (B.map fun b => b.2) = true ∧ PyData.depthAll (B.map fun b => b.2) ≤ 60 := by
          clear h1 bq bh fbe k nds
          induction B with
          | nil => exact ⟨rfl, by decide⟩
          | cons b B ih =>
            have z := ih fun c hc => bg c (List.mem_cons_of_mem _ hc)
            have g := bg b List.mem_cons_self
            refine ⟨?_, ?_⟩
            · simp only [List.map_cons, PyData.canLayAll0, Bool.and_eq_true]
              exact ⟨g.cl, z.1⟩
            · simp only [List.map_cons, PyData.depthAll]
              exact Nat.max_le.mpr ⟨Nat.le_trans g.nc.dp (by decide), z.2⟩
        unfold SeqAt.shaped
        rw [Bool.and_eq_true]
        refine ⟨by simp only [PyData.canLay0]; exact h.1, decide_eq_true ?_⟩
        simp only [PyData.depth]
        omega
      have ne : EvT (tTest (tOp (rNeD K) (tVar 1) (tLst tNil))) [some (.ref a), some (.ref D), none] H1 (!PyData.eqv (.list (B.map fun b => b.2)) (.list [])) := et_test fun H2 e2 Q kk => by
        refine ⟨_, rfl, by show 0 ≤ sizeLine; decide, fun l fl => ?_⟩
        have x3 := Ex.new (o := .lst []) fl
        exact ⟨_, _, .lst (SqL.of ((e2.trans x3) _ _ h1)) (DqAll.dp _ _ nds (DqAll.ex (e2.trans x3) _ _ bq)), .lst (SqL.of upd_same) .nil, sh, rfl, kk _ x3⟩
      cases B with
      | nil =>
        exact s_ret (ev_if (b := false) (et_is ne (by simp [PyData.eqv, PyData.eqvAll])) (fun z => nomatch z) fun _ => ev_c) fun H2 e2 => k H2 (e1.trans e2)
      | cons b B =>
        obtain ⟨x, d⟩ := b
        cases bq with
        | cons q qs =>
          have g := bg (x, d) List.mem_cons_self
          have ix : Ev (tOp (rIxL K) (tVar 1) (tC (.int 0))) [some (.ref a), some (.ref D), none] H1 x := fun H2 e2 Q kk => ⟨_, rfl, D, _, 0, x, rfl, rfl, SqL.of (e2 _ _ h1), atI_nat (xs := ((x, d) :: B).map fun b => b.1) (j := 0) (v := x) rfl, kk H2 (Ex.refl H2)⟩
          have ed : EvD K p (tOp (rIxL K) (tVar 1) (tC (.int 0))) [some (.ref a), some (.ref D), none] H1 d := fun H2 e2 Q kk => ix H2 e2 Q fun H3 e3 => kk x H3 e3 (Dq.ex (e2.trans e3) _ _ q)
          exact s_ret (ev_if (b := true) (et_is ne (by simp [PyData.eqv, PyData.eqvAll])) (fun _ => ev_bad4 ed g.nc) fun z => nomatch z) fun H2 e2 => k H2 (e1.trans e2)
end
/-! ### the law k02 -/
def Sml (d : PyData) : Prop := prB d = true → Bd 4 (pq1 d) ∧ Bd 4 (pq2 d)
theorem gp_9 {q r : Rat} (h : Bd 9 q) (h' : Bd 9 r) : GoodP (pairD q r) := goodP_pr (good_fr (h.mono (by decide))) (good_fr (h'.mono (by decide))) (nc_pair h.1 (bd_den h) (by decide) (by decide)) (nc_pair h'.1 (bd_den h') (by decide) (by decide)) (by decide) (by decide) (by decide)
theorem nc_pr {q r : Rat} {b : Nat} (h : Bd b q) (h' : Bd b r) (h0 : 0 < b) (h1 : b ≤ 1800) : Nc (4 * b + 40) 8 (pairD q r) := (nc_tup (nca_cons (nc_pair h.1 (bd_den h) h0 (by omega)) (nca_cons (nc_pair h'.1 (bd_den h') h0 (by omega)) nca_nil))).mono (by omega) (by decide)
theorem bd_mulR {q r : Rat} {b c : Nat} (x : Bd b q) (y : Bd c r) : Bd (b + c) (q * r) := by
  rw [← mul_eq]
  exact bd_divInt (Int.mul_ne_zero (den_ne q) (den_ne r)) (bn_mul x.1 y.1) (bn_mul (bd_den x) (bd_den y))
theorem sgn_pos (n : Int) : 0 < sgn n ↔ 0 < n := by
  unfold sgn
  by_cases h : 0 < n
  · rw [decide_eq_true h, decide_eq_false (by omega)]
    simp [h]
  · by_cases h2 : n < 0
    · rw [decide_eq_false h, decide_eq_true h2]
      simp [h]
    · rw [decide_eq_false h, decide_eq_false h2]
      simp [h]
theorem sgn_zero (n : Int) : sgn n = 0 ↔ n = 0 := by
  unfold sgn
  by_cases h : 0 < n
  · rw [decide_eq_true h, decide_eq_false (by omega)]
    simp; omega
  · by_cases h2 : n < 0
    · rw [decide_eq_false h, decide_eq_true h2]
      simp; omega
    · rw [decide_eq_false h, decide_eq_false h2]
      simp; omega
theorem num_pos_iff (q : Rat) : 0 < q.num ↔ 0 < q := by
  have h1 : (0 : Int) ≤ q.num ↔ 0 ≤ q := Rat.num_nonneg
  have h2 : q.num = 0 ↔ q = 0 := Rat.num_eq_zero
  constructor
  · intro h
    have a := h1.mp (by omega)
    have b : q ≠ 0 := fun e => by have := h2.mpr e; omega
    grind
  · intro h
    have a := h1.mpr (by grind)
    have b : q.num ≠ 0 := fun e => by have := h2.mp e; grind
    omega
section
variable {K : PySem.W.Frag} {p a T : Addr} {σ : L2.St} {H H' : Hp} {N : Nat} {D : Ends} {E E' : XK}
theorem tab_exb {xs : List V} (ht : GxR.TabG H T) (hp : H p = some (.lst xs)) (e : ExB p H H') : GxR.TabG H' T := by
  obtain ⟨ps, h1, h2⟩ := ht
  exact ⟨ps, e _ _ (by rintro rfl; rw [hp] at h1; cases h1) h1, h2⟩
theorem Pen.tb (h : Pen H p a N) (ht : GxR.TabG H T) (e : ExB T H H') : Pen H' p a N := by
  obtain ⟨cs, t, v, h1, h2, r⟩ := h
  exact ⟨cs, t, v, e _ _ (tab_ne ht h1 fun _ z => nomatch z) h1, e _ _ (tab_ne ht h2 fun _ z => nomatch z) h2, r⟩
theorem s_anyP2 (hp : Pen H p a N) (h1 : σ[1]? = some (some (.ref p))) (hN : N ≤ 880)
    (k : ∀ x y d e H', ExB p H H' → Pen H' p a (N + 8) → Dq K p H' x d → GoodP d → Sml d → short d = true → Dq K p H' y e → GoodP e → short e = true → D.nx ((σ.set 3 (some x)).set 4 (some y)) H') :
    tPar 3 4 (tCons (tCall (spAnyP K) [] E (tCons (tCall spAnew [] E (tCons (tVar 1) tNil)) tNil)) (tCons (tCall (spAnyP K) [] E (tCons (tCall spAnew [] E (tCons (tVar 1) tNil)) tNil)) tNil)) D σ H := by
  refine ⟨.ref p, h1, p, a, N, rfl, hp, fun H1 eb1 hp1 => ?_⟩
  obtain ⟨xs1, hx1⟩ := hp1.hasP
  refine ⟨p, a, p, _, N, rfl, hp1, by omega, hx1, fun x d H2 eb2 hp2 dx hx' gx sx => ?_⟩
  refine ⟨.ref p, h1, p, a, _, rfl, hp2, fun H3 eb3 hp3 => ?_⟩
  obtain ⟨xs3, hx3⟩ := hp3.hasP
  refine ⟨p, a, p, _, _, rfl, hp3, by omega, hx3, fun y e H4 eb4 hp4 dy hy' gy _ => ?_⟩
  obtain ⟨xs, hx⟩ := hp2.hasP
  exact ⟨x, y, rfl, k x y d e H4 (((eb1.trans eb2).trans eb3).trans eb4) (hp4.mono (by omega)) (Dq.exb hx (eb3.trans eb4) _ _ dx) gx sx hx' dy gy hy'⟩
theorem fb_two {x y : V} {d e : PyData} : fbV [x, y] [d, e] = if prB d = true then (if prB e = true then .non else .str ("pair" ++ e.shown)) else .str ("pair" ++ d.shown) := by
  unfold fbV
  simp only [firstBad]
  by_cases h : prB d = true
  · rw [if_pos h, if_pos h]
    by_cases h2 : prB e = true
    · rw [if_pos h2, if_pos h2]
    · rw [if_neg h2, if_neg h2]
  · rw [if_neg h, if_neg h]
theorem fb_one {x : V} {d : PyData} : fbV [x] [d] = if prB d = true then .non else .str ("pair" ++ d.shown) := by
  unfold fbV
  simp only [firstBad]
  by_cases h : prB d = true
  · rw [if_pos h, if_pos h]
  · rw [if_neg h, if_neg h]
theorem cmp_f {w : Str} {x y : V} {d e : PyData} (h : prB d = false) : cmpOut w x y d e = .inl (true, x, d) := by unfold cmpOut; rw [if_pos h]
theorem cmp_s {w : Str} {x y : V} {d e : PyData} (h : prB d = true) (h2 : prB e = false) : cmpOut w x y d e = .inl (true, y, e) := by unfold cmpOut; rw [if_neg (by rw [h]; decide), if_pos h2]
theorem cmp_n {w : Str} {x y : V} {d e : PyData} (h : prB d = true) (h2 : prB e = true) : cmpOut w x y d e = .inr (.bool (if w = "ahead" then decide (0 < turnQ (pq1 d) (pq2 d) (pq1 e) (pq2 e)) else decide (turnQ (pq1 d) (pq2 d) (pq1 e) (pq2 e) = 0))) := by
  unfold cmpOut
  rw [if_neg (by rw [h]; decide), if_neg (by rw [h2]; decide)]
theorem val_cmp {w : Str} {x y : V} {d e : PyData} (hd : Dq K p H x d) (he : Dq K p H y e) (gd : GoodP d) (ge : GoodP e) : ValO K p H (cmpOut w x y d e) := by
  cases h : prB d with
  | false => rw [cmp_f h]; exact ⟨hd, gd.nc.mono (by decide) (by decide)⟩
  | true =>
    cases h2 : prB e with
    | false => rw [cmp_s h h2]; exact ⟨he, ge.nc.mono (by decide) (by decide)⟩
    | true => rw [cmp_n h h2]; exact (nc_bool _).mono (by decide) (by decide)
theorem so_cmp {w : Str} {x y : V} {d e : PyData} (hd : short d = true) (he : short e = true) : PyData.strOk (txtO (cmpOut w x y d e)) = true := by
  cases h : prB d with
  | false => rw [cmp_f h]; exact so_app (so_str _) (so_shown d hd)
  | true =>
    cases h2 : prB e with
    | false => rw [cmp_s h h2]; exact so_app (so_str _) (so_shown e he)
    | true => rw [cmp_n h h2]; exact so_shown (.bool _) rfl
theorem firstBad_dq {xs : List V} {ds : List PyData} {x : V} {d : PyData} : DqAll K p H xs ds → firstBad xs ds = some (x, d) → Dq K p H x d ∧ d ∈ ds
  | .nil, h => by cases h
  | .cons (d := e) q qs, h => by
    unfold firstBad at h
    by_cases z : prB e = true
    · rw [if_pos z] at h
      obtain ⟨h1, h2⟩ := firstBad_dq qs h
      exact ⟨h1, List.mem_cons_of_mem _ h2⟩
    · rw [if_neg z] at h
      cases h
      exact ⟨q, List.mem_cons_self⟩
theorem firstBad_all : ∀ {xs : List V} {ds : List PyData}, xs.length = ds.length → firstBad xs ds = none → ∀ d ∈ ds, prB d = true
  | [], [], _, _ => fun _ z => nomatch z
  | x :: xs, e :: ds, hl, h => by
    unfold firstBad at h
    by_cases z : prB e = true
    · rw [if_pos z] at h
      intro d hd
      rcases List.mem_cons.mp hd with rfl | hd
      · exact z
      · exact firstBad_all (by simpa using hl) h d hd
    · rw [if_neg z] at h
      cases h
theorem et_neS {ta tb : TE} {x y : Str} (ha : Ev ta σ H (.str x)) (hb : Ev tb σ H (.str y)) (h : x = y) : EvT (tTest (tOp rNe ta tb)) σ H false :=
  et_is (et_test (ev_op ha hb (rv_ne rfl))) (by subst h; simp)
theorem ep_none : EvP (tCall (spNone K) [] E tNil) σ H (fun v H => Pr K 1 0 0 v H) := fun H1 e Q k => ⟨rfl, fun z H' e' pr => k z H' e' pr⟩
end
def s1 (ds : List PyData) : Rat := (ds.map pq1).sum
def s2 (ds : List PyData) : Rat := (ds.map pq2).sum
theorem sum_snoc : ∀ (l : List Rat) (x : Rat), (l ++ [x]).sum = l.sum + x
  | [], x => by simp [List.sum_cons, List.sum_nil]; grind
  | y :: l, x => by
    rw [List.cons_append, List.sum_cons, List.sum_cons, sum_snoc l x]
    grind
theorem take_snoc {ds : List PyData} {j : Nat} {d : PyData} (h : ds[j]? = some d) : ds.take (j + 1) = ds.take j ++ [d] := by
  rw [List.take_add_one, h]
  rfl
theorem s1_take {ds : List PyData} {j : Nat} {d : PyData} (h : ds[j]? = some d) : s1 (ds.take (j + 1)) = s1 (ds.take j) + pq1 d := by
  unfold s1
  rw [take_snoc h, List.map_append, List.map_cons, List.map_nil, sum_snoc]
theorem s2_take {ds : List PyData} {j : Nat} {d : PyData} (h : ds[j]? = some d) : s2 (ds.take (j + 1)) = s2 (ds.take j) + pq2 d := by
  unfold s2
  rw [take_snoc h, List.map_append, List.map_cons, List.map_nil, sum_snoc]
theorem tot_n {xs : List V} {ds : List PyData} (h : firstBad xs ds = none) : totOut xs ds = .inr (pairD (s1 ds) (s2 ds)) := by
  unfold totOut
  rw [h]
  unfold s1 s2 qsOf
  simp only [List.map_map]
  rfl
theorem tot_s {xs : List V} {ds : List PyData} {x : V} {d : PyData} (h : firstBad xs ds = some (x, d)) : totOut xs ds = .inl (true, x, d) := by
  unfold totOut
  rw [h]
theorem spr_f {x u : V} {d e : PyData} (h : prB d = false) : sprOut x u d e = .inl (true, x, d) := by unfold sprOut; rw [if_pos h]
theorem spr_s {x u : V} {d e : PyData} (h : prB d = true) (h2 : frB e = false) : sprOut x u d e = .inl (false, u, e) := by unfold sprOut; rw [if_neg (by rw [h]; decide), if_pos h2]
theorem spr_n {x u : V} {d e : PyData} (h : prB d = true) (h2 : frB e = true) : sprOut x u d e = .inr (pairD (pq1 d * frQ e) (pq2 d * frQ e)) := by unfold sprOut; rw [if_neg (by rw [h]; decide), if_neg (by rw [h2]; decide)]
theorem NcA.mono' {c c' e e' : Nat} {ds : List PyData} (h : NcA c e ds) (h1 : c ≤ c') (h2 : e ≤ e') : NcA c' e' ds := ⟨h.sh, Nat.le_trans h.dp h2, Nat.le_trans h.co h1⟩
theorem shortAll_app : ∀ (ds : List PyData) (d : PyData), shortAll (ds ++ [d]) = (shortAll ds && short d)
  | [], d => by simp only [List.nil_append, shortAll, Bool.and_true, Bool.true_and]
  | e :: ds, d => by rw [List.cons_append, shortAll, shortAll, shortAll_app ds d, Bool.and_assoc]
theorem hasDictAll_of : ∀ {ds : List PyData}, (∀ d ∈ ds, d.hasDict = false) → PyData.hasDictAll ds = false
  | [], _ => rfl
  | d :: ds, h => by simp only [PyData.hasDictAll, h d List.mem_cons_self, hasDictAll_of fun e he => h e (List.mem_cons_of_mem _ he), Bool.or_false]
theorem nca_of : ∀ {ds : List PyData}, ds.length ≤ 4 → (∀ d ∈ ds, Nc 1000 5 d) → NcA 4100 6 ds := by
  intro ds hl h
  match ds, hl, h with
  | [], _, _ => exact ⟨rfl, Nat.zero_le _, Nat.zero_le _⟩
  | [a], _, h => exact NcA.mono' (nca_cons (h a (by simp)) nca_nil) (by decide) (by decide)
  | [a, b], _, h => exact NcA.mono' (nca_cons (h a (by simp)) (nca_cons (h b (by simp)) nca_nil)) (by decide) (by decide)
  | [a, b, c], _, h => exact NcA.mono' (nca_cons (h a (by simp)) (nca_cons (h b (by simp)) (nca_cons (h c (by simp)) nca_nil))) (by decide) (by decide)
  | [a, b, c, d], _, h => exact NcA.mono' (nca_cons (h a (by simp)) (nca_cons (h b (by simp)) (nca_cons (h c (by simp)) (nca_cons (h d (by simp)) nca_nil)))) (by decide) (by decide)
  | _ :: _ :: _ :: _ :: _ :: _, hl, _ => exact absurd hl (by simp)
/-- the portions that are no fractions, but one -/
def tR : TA := tCons (tTup (tCons (tC (.int 2)) (tCons (tC (.int 4)) tNil))) (tCons (tC .non) (tCons (tC (.int 1)) (tCons (tTup (tCons (tC (.int 1)) (tCons (tC (.int 0)) tNil))) (tCons (tLstN (tCons (tC (.int 1)) (tCons (tC (.int 2)) tNil))) tNil))))
def dR : List PyData := [.tuple [.int 2, .int 4], .none, .int 1, .tuple [.int 1, .int 0], .list [.int 1, .int 2]]
structure GoodR (d : PyData) : Prop where
  g : Good d
  nd : d.hasDict = false
  cl : d.canLay0 = true
  sm : Nc 100 3 d
theorem goodR : ∀ d ∈ dR, GoodR d := by
  have i1 : Nc 10 0 (.int 1) := nc_int (b := 8) (by decide) (by decide) (by decide)
  have i2 : Nc 10 0 (.int 2) := nc_int (b := 8) (by decide) (by decide) (by decide)
  refine List.forall_mem_cons.mpr ⟨⟨good_pair (by decide) (by decide), rfl, rfl, (nc_ii 2 4 (by decide) (by decide)).mono (by decide) (by decide)⟩, List.forall_mem_cons.mpr ⟨⟨good_of nc_none (by decide) (by decide) rfl (fun _ _ e => nomatch e), rfl, rfl, nc_none.mono (by decide) (by decide)⟩, List.forall_mem_cons.mpr ⟨⟨good_int (by decide), rfl, rfl, (nc_i 1 (by decide)).mono (by decide) (by decide)⟩, List.forall_mem_cons.mpr ⟨⟨good_pair (by decide) (by decide), rfl, rfl, (nc_ii 1 0 (by decide) (by decide)).mono (by decide) (by decide)⟩, List.forall_mem_cons.mpr ⟨⟨?_, rfl, rfl, nc_12.mono (by decide) (by decide)⟩, fun _ z => nomatch z⟩⟩⟩⟩⟩
  exact good_of (nc_lst (nca_cons i1 (nca_cons i2 nca_nil))) (by decide) (by decide) rfl (fun _ _ e => nomatch e)
theorem mR {K : PySem.W.Frag} {p : Addr} {σ : L2.St} {H : Hp} {o : HO} (hh : H p = some o) : EvDs K p tR σ H dR := by
  unfold tR dR
  exact eds_cons (ed_P ed_I ed_I) (eds_cons ed_none (eds_cons ed_I (eds_cons (ed_P ed_I ed_I) (eds_cons (ed_lst hh (eds_cons ed_I (eds_cons ed_I eds_nil)) (by show 2 ≤ 1000; decide)) eds_nil))))
section
variable {P : Program} {w : World} {K : PySem.W.Frag} {mg : Str → Option Value} {base : Heap}
def spLaw (K : PySem.W.Frag) (T : Addr) : Sp := fun vs H Q _ => ∃ (a : Addr) (ns : List Int), vs = [.ref a] ∧ SqL K H a (ns.map V.int) ∧ ns.length ≤ 63 ∧ GxR.TabG H T ∧ ∀ H', Q (.bl true) H'
theorem ok_law (T : Txt K mg) (tb : GxR.TabB base mg T.c_add_all T.P_add_all) : FnG P w K mg base 9 T.d_law.a T.d_law.fd ["_law_script"] (spLaw K T.P_add_all) := by
  refine okG T.d_law.F sc_law (fun vs H Q E h => ?_) (fun cdv A outer s H vs Q gd hr h => ?_)
  · obtain ⟨a, ns, rfl, _⟩ := h
    rfl
  · obtain ⟨a, ns, rfl, hS, hl, ht, k⟩ := h
    have hu := hr.units
    refine ⟨_, (pss_cons (ps_set (i := 1) sc_law.nd rfl (Or.inr rfl) (pe_call (ok__law_open T) (hr.mono (by decide)) (by rfl) T.d__law_open.g T.d__law_open.F.kp T.d__law_open.b .nil pass0 (pa_cons (pv 0) pa_nil)))
      (pss_cons (ps_for PassesOwn.never rfl (pi_range1 (by rfl) T.n_range (pa_cons pe_int pa_nil)) (pg_name (i := 2) sc_law.nd rfl (Or.inl rfl)) (pss_cons (ps_par (i := 3) (j := 4) (by rfl) sc_law.nd rfl rfl (by decide) rfl rfl (pa_cons (pe_call (ok__law_any T) (hr.mono (by decide)) (by rfl) T.d__law_any.g T.d__law_any.F.kp T.d__law_any.b .nil pass0 (pa_cons (pe_call (ok__law_anew T) (hr.mono (by decide)) (by rfl) T.d__law_anew.g T.d__law_anew.F.kp T.d__law_anew.b .nil pass0 (pa_cons (pv 1) pa_nil)) pa_nil)) (pa_cons (pe_call (ok__law_any T) (hr.mono (by decide)) (by rfl) T.d__law_any.g T.d__law_any.F.kp T.d__law_any.b .nil pass0 (pa_cons (pe_call (ok__law_anew T) (hr.mono (by decide)) (by rfl) T.d__law_anew.g T.d__law_anew.F.kp T.d__law_anew.b .nil pass0 (pa_cons (pv 1) pa_nil)) pa_nil)) pa_nil)) (by rfl))
      (pss_cons (ps_if (PW.pt (pw_and (pt_val (pe_call (ok__law_is T) (hr.mono (by decide)) (by rfl) T.d__law_is.g T.d__law_is.F.kp T.d__law_is.b .nil pass0 (pa_cons (pv 3) pa_nil))) (pw_and1 (pt_cmpR op_eq (pe_call (ok__law_take T) (hr.mono (by decide)) (by rfl) T.d__law_take.g T.d__law_take.F.kp T.d__law_take.b .nil pass0 (pa_cons (pv 1) (pa_cons pe_int pa_nil))) pe_int (nomark _))))) (pss_one (ps_set (i := 4) sc_law.nd rfl (Or.inl rfl) (pe_call (ok__law_times T) (hr.mono (by decide)) (by rfl) T.d__law_times.g T.d__law_times.F.kp T.d__law_times.b .nil pass0 (pa_cons (pv 3) (pa_cons (pe_call (ok__law_amount T) (hr.mono (by decide)) (by rfl) T.d__law_amount.g T.d__law_amount.F.kp T.d__law_amount.b .nil pass0 (pa_cons (pv 1) pa_nil)) pa_nil))))) pss_nil)
      (pss_cons (ps_if (pt_cmpR op_ne (pe_callB (call_repr gd hu) (by rfl) T.n_repr (by decide +kernel) (pa_cons (pe_call (ok_is_pair T) (hr.mono (by decide)) (by rfl) T.d_is_pair.g T.d_is_pair.F.kp T.d_is_pair.b .nil pass0 (pa_cons (pv 3) pa_nil)) pa_nil)) (pe_callB (call_repr gd hu) (by rfl) T.n_repr (by decide +kernel) (pa_cons (pe_call (ok__law_is T) (hr.mono (by decide)) (by rfl) T.d__law_is.g T.d__law_is.F.kp T.d__law_is.b .nil pass0 (pa_cons (pv 3) pa_nil)) pa_nil)) (nomark _)) (pss_one (ps_ret pe_bl)) pss_nil)
      (pss_cons (ps_set (i := 5) sc_law.nd rfl (Or.inl rfl) (pe_op op_rep (pe_lstN (pa_cons (pe_callG (ok__law_first_bad T) gd (hr.mono (by decide)) (by rfl) T.d__law_first_bad.g T.d__law_first_bad.F.kp T.d__law_first_bad.b (pa_cons (pe_lstN (pa_cons (pv 3) (pa_cons (pv 4) pa_nil))) pa_nil)) pa_nil)) pe_int))
      (pss_cons (ps_if (pt_cmpR op_isN (pe_ix ix_list (pv 5) pe_int (fun _ _ => rfl)) pe_non (nomark _)) (pss_cons (ps_set (i := 6) sc_law.nd rfl (Or.inl rfl) (pe_call (ok__law_turn T) (hr.mono (by decide)) (by rfl) T.d__law_turn.g T.d__law_turn.F.kp T.d__law_turn.b .nil pass0 (pa_cons (pv 3) (pa_cons (pv 4) pa_nil))))
      (pss_one (ps_set (i := 5) sc_law.nd rfl (Or.inl rfl) (pe_lstN (pa_cons (pe_callB (call_repr gd hu) (by rfl) T.n_repr (by decide +kernel) (pa_cons (pe_cmpR op_gt (pv 6) pe_int (nomark _)) pa_nil)) (pa_cons (pe_callB (call_repr gd hu) (by rfl) T.n_repr (by decide +kernel) (pa_cons (pe_cmpR op_eq (pv 6) pe_int (nomark _)) pa_nil)) pa_nil)))))) pss_nil)
      (pss_cons (ps_if (pt_cmpR (op_neD hr.units) (pe_lstN (pa_cons (pe_callG (ok__law_told T tb) gd (hr.mono (by decide)) (by rfl) T.d__law_told.g T.d__law_told.F.kp T.d__law_told.b (pa_cons pe_str (pa_cons (pv 3) (pa_cons (pv 4) pa_nil)))) (pa_cons (pe_callG (ok__law_told T tb) gd (hr.mono (by decide)) (by rfl) T.d__law_told.g T.d__law_told.F.kp T.d__law_told.b (pa_cons pe_str (pa_cons (pv 3) (pa_cons (pv 4) pa_nil)))) pa_nil))) (pv 5) (nomark _)) (pss_one (ps_ret pe_bl)) pss_nil)
      (pss_cons (ps_setLc (i := 7) (own := [("_law_k", 11)]) (g := gName 11) (tt := tYes) rfl sc_law.nd rfl rfl (sw_true rfl rfl rfl (by decide +kernel)) (pi_range1 (by rfl) T.n_range (pa_cons (pe_call (ok__law_take T) (hr.mono (by decide)) (by rfl) T.d__law_take.g T.d__law_take.F.kp T.d__law_take.b .nil pass0 (pa_cons (pv 1) (pa_cons pe_int pa_nil))) pa_nil)) (blkOk_by (own := [("_law_k", 11)]) (N := n_law) (sc := defScope s_law) (by decide +kernel)) (fun _ _ _ _ _ => pg_name (i := 11) sc_law.nd rfl (Or.inl rfl)) (fun _ _ _ _ _ => pts_nil) (fun _ _ _ _ _ => (pe_call (ok__law_any T) (hr.mono (by decide)) (by rfl) T.d__law_any.g T.d__law_any.F.kp T.d__law_any.b .nil pass0 (pa_cons (pe_call (ok__law_anew T) (hr.mono (by decide)) (by rfl) T.d__law_anew.g T.d__law_anew.F.kp T.d__law_anew.b .nil pass0 (pa_cons (pv 1) pa_nil)) pa_nil))))
      (pss_cons (ps_set (i := 8) sc_law.nd rfl (Or.inl rfl) (pe_call0 (ok__law_none T) (hr.mono (by decide)) (by rfl) T.d__law_none.g T.d__law_none.F.kp T.d__law_none.b .nil pass0))
      (pss_cons (ps_for PassesOwn.never rfl (pi_list (pv 7)) (pg_name (i := 9) sc_law.nd rfl (Or.inl rfl)) (pss_one (ps_set (i := 8) sc_law.nd rfl (Or.inl rfl) (pe_ifExp (pt_cmpR op_isN (pe_callG (ok__law_first_bad T) gd (hr.mono (by decide)) (by rfl) T.d__law_first_bad.g T.d__law_first_bad.F.kp T.d__law_first_bad.b (pa_cons (pv 7) pa_nil)) pe_non (nomark _)) (pe_call (ok__law_join T) (hr.mono (by decide)) (by rfl) T.d__law_join.g T.d__law_join.F.kp T.d__law_join.b .nil pass0 (pa_cons (pv 8) (pa_cons (pv 9) pa_nil))) (pv 8)))))
      (pss_cons (ps_set (i := 5) sc_law.nd rfl (Or.inl rfl) (pe_callG (ok__law_first_bad T) gd (hr.mono (by decide)) (by rfl) T.d__law_first_bad.g T.d__law_first_bad.F.kp T.d__law_first_bad.b (pa_cons (pv 7) pa_nil)))
      (pss_cons (ps_if (pt_cmpR op_ne (pe_callG (ok__law_told T tb) gd (hr.mono (by decide)) (by rfl) T.d__law_told.g T.d__law_told.F.kp T.d__law_told.b (pa_cons pe_str (pa_cons (pe_call (ok__law_one T) (hr.mono (by decide)) (by rfl) T.d__law_one.g T.d__law_one.F.kp T.d__law_one.b .nil pass0 (pa_cons (pv 1) (pa_cons (pe_lstN (pa_cons (pv 7) (pa_cons (pe_callTy call_tuple_of (by rfl) T.n_tuple (by decide +kernel) (pa_cons (pv 7) pa_nil)) pa_nil))) pa_nil))) (pa_cons pe_non pa_nil)))) (pe_ifExp (pt_cmpR op_isN (pv 5) pe_non (nomark _)) (pe_callB (call_repr gd hu) (by rfl) T.n_repr (by decide +kernel) (pa_cons (pv 8) pa_nil)) (pv 5)) (nomark _)) (pss_one (ps_ret pe_bl)) pss_nil)
      (pss_cons (ps_set (i := 10) sc_law.nd rfl (Or.inl rfl) (pe_call (ok__law_one T) (hr.mono (by decide)) (by rfl) T.d__law_one.g T.d__law_one.F.kp T.d__law_one.b .nil pass0 (pa_cons (pv 1) (pa_cons (pe_lstN (pa_cons (pe_call (ok__law_amount T) (hr.mono (by decide)) (by rfl) T.d__law_amount.g T.d__law_amount.F.kp T.d__law_amount.b .nil pass0 (pa_cons (pv 1) pa_nil)) (pa_cons (pe_call (ok__law_amount T) (hr.mono (by decide)) (by rfl) T.d__law_amount.g T.d__law_amount.F.kp T.d__law_amount.b .nil pass0 (pa_cons (pv 1) pa_nil)) (pa_cons (pe_tup (pa_cons pe_int (pa_cons pe_int pa_nil))) (pa_cons pe_non (pa_cons pe_int (pa_cons (pe_tup (pa_cons pe_int (pa_cons pe_int pa_nil))) (pa_cons (pe_lstN (pa_cons pe_int (pa_cons pe_int pa_nil))) pa_nil)))))))) pa_nil))))
      (pss_cons (ps_set (i := 5) sc_law.nd rfl (Or.inl rfl) (pe_callG (ok__law_first_bad T) gd (hr.mono (by decide)) (by rfl) T.d__law_first_bad.g T.d__law_first_bad.F.kp T.d__law_first_bad.b (pa_cons (pe_lstN (pa_cons (pv 3) pa_nil)) pa_nil)))
      (pss_cons (ps_if (pt_cmpR op_isN (pv 5) pe_non (nomark _)) (pss_one (ps_set (i := 5) sc_law.nd rfl (Or.inl rfl) (pe_ifExp (pt_val (pe_call (ok__law_is T) (hr.mono (by decide)) (by rfl) T.d__law_is.g T.d__law_is.F.kp T.d__law_is.b .nil pass0 (pa_cons (pe_tup (pa_cons (pv 10) (pa_cons (pv 10) pa_nil))) pa_nil))) (pe_callB (call_repr gd hu) (by rfl) T.n_repr (by decide +kernel) (pa_cons (pe_call (ok__law_times T) (hr.mono (by decide)) (by rfl) T.d__law_times.g T.d__law_times.F.kp T.d__law_times.b .nil pass0 (pa_cons (pv 3) (pa_cons (pv 10) pa_nil))) pa_nil)) (pe_op op_add_str pe_str (pe_callB (call_repr gd hu) (by rfl) T.n_repr (by decide +kernel) (pa_cons (pv 10) pa_nil)))))) pss_nil)
      (pss_one (ps_if (pt_cmpR op_ne (pe_callG (ok__law_told T tb) gd (hr.mono (by decide)) (by rfl) T.d__law_told.g T.d__law_told.F.kp T.d__law_told.b (pa_cons pe_str (pa_cons (pv 3) (pa_cons (pv 10) pa_nil)))) (pv 5) (nomark _)) (pss_one (ps_ret pe_bl)) pss_nil)))))))))))))))))
      (pss_one (ps_ret pe_bl)))), ?_⟩
    refine ⟨.ref a, rfl, a, ns, rfl, hS, hl, fun p c H1 ex1 hp nf => ?_⟩
    refine ⟨4, rfl, by decide, by decide, ?_⟩
    refine for_range (lo := 0) (n := 4) (fun i σ H' => (∃ y2 y3 y4 y5 y6 y7 y8 y9 y10 y11, σ = [some (.ref a), some (.ref p), y2, y3, y4, y5, y6, y7, y8, y9, y10, y11]) ∧ Pen H' p c (40 * i) ∧ GxR.TabG H' T.P_add_all) ⟨⟨none, none, none, none, none, none, none, none, none, none, rfl⟩, hp, tab_ex ht ex1⟩ ?_ ?_
    · rintro i σ H' hi ⟨⟨y2, y3, y4, y5, y6, y7, y8, y9, y10, y11, rfl⟩, hp', ht'⟩
      refine n_name ?_
      dsimp only
      obtain ⟨x0, hx0⟩ := hp'.hasP
      refine n_seq ?_
      refine s_anyP2 (K := K) hp' rfl (by omega) fun x y d e H2 eb2 hp2 hd gd' sd shd he ge she => ?_
      obtain ⟨x2, hx2⟩ := hp2.hasP
      have ht2 := tab_exb ht' hx0 eb2
      clear eb2 hp' ht' hx0 ht hp ex1
      dsimp only
      -- at times the other is a share of the one
      refine s_join (fun σ H' => ∃ y' e', σ = [some (.ref a), some (.ref p), some (.int (0 + (i : Nat))), some x, some y', y5, y6, y7, y8, y9, y10, y11] ∧ ExB p H2 H' ∧ Pen H' p c (40 * i + 10) ∧ Dq K p H' y' e' ∧ GoodP e' ∧ short e' = true) (fun NX hNX => ?_) ?_
      · refine (et_B (ev_isD (p := p) (ev_var rfl) hd gd')) H2 (Ex.refl H2) _ fun H3 e3 => ?_
        cases hpd : prB d with
        | false =>
          refine iteF (iteF ?_)
          exact hNX _ _ ⟨y, e, rfl, Ex.b e3, (hp2.ex e3).mono (by omega), Dq.ex e3 _ _ he, ge, she⟩
        | true =>
          refine iteT ?_
          refine ⟨.ref p, rfl, p, c, 4, _, rfl, hp2.ex e3, by decide, by decide, by omega, fun r H4 r0 r1 eb4 hp4 => ?_⟩
          refine ⟨rfl, _, rfl, ite2 (fun z => ?_) (fun z => ?_)⟩
          · refine ⟨x, rfl, .ref p, rfl, p, c, _, rfl, hp4, by omega, fun u q H5 eb5 hp5 fu => ?_⟩
            have EB := ((Ex.b e3).trans eb4).trans eb5
            obtain ⟨b1, b2⟩ := sd hpd
            have prx := (Dq.exb hx2 EB _ _ hd).pr hpd b1 b2
            refine ⟨x, u, 4, 4, _, _, q, rfl, prx, fu, by decide, fun z H6 e6 prz => ?_⟩
            refine hNX _ _ ⟨z, pairD (pq1 d * q) (pq2 d * q), rfl, EB.trans (Ex.b e6), (hp5.ex e6).mono (by omega), prz.dq, ?_, rfl⟩
            obtain ⟨_, _, _, _, _, f1, f2⟩ := prz
            exact gp_9 f1.bd f2.bd
          · refine n_next ?_
            exact hNX _ _ ⟨y, e, rfl, (Ex.b e3).trans eb4, hp4.mono (by omega), Dq.exb hx2 ((Ex.b e3).trans eb4) _ _ he, ge, she⟩
      · rintro σ H3 ⟨y', e', rfl, eb3, hp3, he3, ge3, she3⟩
        have hd3 := Dq.exb hx2 eb3 _ _ hd
        have ht3 := tab_exb ht2 hx2 eb3
        clear hd he ge ht2 eb3 hp2 hx2
        refine n_seq ?_
        refine s_skip (et_neS (ev_repr (p := p) (d := .bool (prB d)) (ed_ev (ev_isD (ev_var rfl) hd3 trivial) fun _ => .bl _) (nc_bool _) (by decide) (by decide)) (ev_repr (p := p) (d := .bool (prB d)) (ed_ev (ev_isD (ev_var rfl) hd3 gd') fun _ => .bl _) (nc_bool _) (by decide) (by decide)) rfl) fun H4 e4 => ?_
        replace hd3 := Dq.ex e4 _ _ hd3
        replace he3 := Dq.ex e4 _ _ he3
        replace hp3 := hp3.ex e4
        replace ht3 := tab_ex ht3 e4
        clear e4
        dsimp only
        refine n_seq ?_
        refine ⟨x, rfl, y', rfl, by show 2 ≤ sizeLine; decide, fun l1 f1 _ => ?_⟩
        have x1 := Ex.new (o := .lst [x, y']) f1
        refine ⟨p, l1, [x, y'], [d, e'], rfl, SqL.of upd_same, .cons (Dq.ex x1 _ _ hd3) (.cons (Dq.ex x1 _ _ he3) .nil), by simp [gd', ge3], by show 2 ≤ 20; decide, fun H5 e5 => ?_⟩
        refine ⟨by show 1 ≤ sizeLine; decide, fun l2 f2 _ => ?_⟩
        have x2 := Ex.new (o := .lst [fbV [x, y'] [d, e']]) f2
        refine ⟨l2, 2, _, rfl, rfl, upd_same, by decide, by decide, by show 2 ≤ sizeLine; decide, fun l3 f3 => ?_⟩
        have x3 := Ex.new (o := .lst (List.replicate (2 : Int).toNat [fbV [x, y'] [d, e']]).flatten) f3
        have E5 := (x1.trans e5).trans (x2.trans x3)
        have hl3 : (upd (upd H5 l2 (.lst [fbV [x, y'] [d, e']])) l3 (.lst (List.replicate (2 : Int).toNat [fbV [x, y'] [d, e']]).flatten)) l3 = some (.lst [fbV [x, y'] [d, e'], fbV [x, y'] [d, e']]) := upd_same
        generalize upd (upd H5 l2 (.lst [fbV [x, y'] [d, e']])) l3 (.lst (List.replicate (2 : Int).toNat [fbV [x, y'] [d, e']]).flatten) = H6 at E5 hl3 ⊢
        dsimp only
        refine s_join (fun σ H' => ∃ D y6', σ = [some (.ref a), some (.ref p), some (.int (0 + (i : Nat))), some x, some y', some (.ref D), y6', y7, y8, y9, y10, y11] ∧ Ex H4 H' ∧ H' D = some (.lst [.str (txtO (cmpOut "ahead" x y' d e')), .str (txtO (cmpOut "level" x y' d e'))])) (fun NX hNX => ?_) ?_
        · refine ⟨.ref l3, rfl, l3, _, 0, fbV [x, y'] [d, e'], rfl, rfl, SqL.of hl3, rfl, rfl, _, rfl, ?_⟩
          cases hpd : prB d with
          | false =>
            have fb : fbV [x, y'] [d, e'] = .str ("pair" ++ d.shown) := by rw [fb_two, if_neg (by rw [hpd]; decide)]
            rw [fb] at hl3 ⊢
            refine iteF ?_
            refine n_next (hNX _ _ ⟨l3, y6, rfl, E5, ?_⟩)
            rw [cmp_f hpd, cmp_f hpd]
            exact hl3
          | true =>
            cases hpe : prB e' with
            | false =>
              have fb : fbV [x, y'] [d, e'] = .str ("pair" ++ e'.shown) := by rw [fb_two, if_pos hpd, if_neg (by rw [hpe]; decide)]
              rw [fb] at hl3 ⊢
              refine iteF ?_
              refine n_next (hNX _ _ ⟨l3, y6, rfl, E5, ?_⟩)
              rw [cmp_s hpd hpe, cmp_s hpd hpe]
              exact hl3
            | true =>
              have fb : fbV [x, y'] [d, e'] = .non := by rw [fb_two, if_pos hpd, if_pos hpe]
              rw [fb] at hl3 ⊢
              refine iteT ?_
              refine n_seq ?_
              refine ⟨x, rfl, y', rfl, x, y', 100, _, _, _, _, rfl, (Dq.ex E5 _ _ hd3).pr hpd gd'.b1 gd'.b2, (Dq.ex E5 _ _ he3).pr hpe ge3.b1 ge3.b2, by decide, fun H7 e7 => ?_⟩
              dsimp only
              refine (ev_repr (p := p) (d := .bool _) (ed_ev (ev_op (ev_var rfl) ev_c rv_I0) fun _ => .bl _) (nc_bool _) (by decide) (by decide)) H7 (Ex.refl _) _ fun H8 e8 => ?_
              refine (ev_repr (p := p) (d := .bool _) (ed_ev (ev_op (ev_var rfl) ev_c (rv_eq rfl)) fun _ => .bl _) (nc_bool _) (by decide) (by decide)) H8 (Ex.refl _) _ fun H9 e9 => ?_
              refine ⟨by show 2 ≤ sizeLine; decide, fun l4 f4 _ => ?_⟩
              refine hNX _ _ ⟨l4, _, rfl, E5.trans (e7.trans (e8.trans (e9.trans (Ex.new f4)))), ?_⟩
              rw [upd_same, cmp_n hpd hpe, cmp_n hpd hpe, if_pos rfl, if_neg (by decide)]
              have g1 := (sgn_pos (turnQ (pq1 d) (pq2 d) (pq1 e') (pq2 e')).num).trans (num_pos_iff _)
              have g2 : V.int (sgn (turnQ (pq1 d) (pq2 d) (pq1 e') (pq2 e')).num) = V.int 0 ↔ turnQ (pq1 d) (pq2 d) (pq1 e') (pq2 e') = 0 := by
                rw [V.int.injEq, sgn_zero, Rat.num_eq_zero]
              simp only [txtO, g1, g2]
        · rintro σ H5 ⟨D, y6', rfl, e5, hD⟩
          have hd5 := Dq.ex e5 _ _ hd3
          have he5 := Dq.ex e5 _ _ he3
          have hp5 := hp3.ex e5
          have ht5 := tab_ex ht3 e5
          clear hd3 he3 hp3 ht3 e5 E5 hl3 x1 x2 x3 f1 f2 f3
          refine n_seq ?_
          -- what is told of both
          refine ⟨x, rfl, y', rfl, p, "ahead", x, y', d, e', _, rfl, Dq.dp _ _ gd'.nd hd5, Dq.dp _ _ ge3.nd he5, gd'.nc.mono (by decide) (by decide), ge3.nc.mono (by decide) (by decide), .inl ⟨.inl rfl, d, e', hd5, he5, gd', ge3, rfl⟩, val_cmp hd5 he5 gd' ge3, ht5, fun H6 eb6 t6 => ?_⟩
          have hd6 := Dq.tb ht5 eb6 _ _ hd5
          have he6 := Dq.tb ht5 eb6 _ _ he5
          have hp6 := hp5.tb ht5 eb6
          have hD6 := eb6 _ _ (tab_ne ht5 hD fun _ z => nomatch z) hD
          clear hd5 he5 hp5 hD eb6 ht5
          refine ⟨x, rfl, y', rfl, p, "level", x, y', d, e', _, rfl, Dq.dp _ _ gd'.nd hd6, Dq.dp _ _ ge3.nd he6, gd'.nc.mono (by decide) (by decide), ge3.nc.mono (by decide) (by decide), .inl ⟨.inr rfl, d, e', hd6, he6, gd', ge3, rfl⟩, val_cmp hd6 he6 gd' ge3, t6, fun H7 eb7 t7 => ?_⟩
          have hd7 := Dq.tb t6 eb7 _ _ hd6
          have hp7 := hp6.tb t6 eb7
          have hD7 := eb7 _ _ (tab_ne t6 hD6 fun _ z => nomatch z) hD6
          clear hd6 he6 hp6 hD6 eb7 t6
          have k1 := so_cmp (w := "ahead") (x := x) (y := y') shd she3
          have k2 := so_cmp (w := "level") (x := x) (y := y') shd she3
          generalize txtO (cmpOut "ahead" x y' d e') = w1 at hD7 k1 ⊢
          generalize txtO (cmpOut "level" x y' d e') = w2 at hD7 k2 ⊢
          have sh2 : SeqAt.shaped (.list [.str w1, .str w2]) = true := by
            simp [SeqAt.shaped, PyData.canLay0, PyData.canLayAll0, PyData.depth, PyData.depthAll, k1, k2]
          refine ⟨by show 2 ≤ sizeLine; decide, fun l5 f5 _ => ?_⟩
          have x5 := Ex.new (o := .lst [.str w1, .str w2]) f5
          refine ⟨.ref D, rfl, .list [.str w1, .str w2], .list [.str w1, .str w2], .lst (SqL.of upd_same) (.cons (.str _) (.cons (.str _) .nil)), .lst (SqL.of (x5 _ _ hD7)) (.cons (.str _) (.cons (.str _) .nil)), sh2, sh2, _, rfl, ifF (by simp [PyData.eqv, PyData.eqvAll]) ?_⟩
          replace hd7 := Dq.ex x5 _ _ hd7
          replace hp7 := hp7.ex x5
          replace t7 := tab_ex t7 x5
          generalize upd H7 l5 (.lst [.str w1, .str w2]) = H8 at hd7 hp7 t7
          clear x5 f5 hD7
          refine n_next ?_
          dsimp only
          refine n_seq ?_
          -- some drawn ones
          obtain ⟨x8, hx8⟩ := hp7.hasP
          refine ⟨.ref p, rfl, p, c, 5, _, rfl, hp7, by decide, by decide, by omega, fun r H9 r0 r1 eb9 hp9 => ?_⟩
          have hd9 := Dq.exb hx8 eb9 _ _ hd7
          have t9 := tab_exb t7 hx8 eb9
          clear hd7 hp7 t7 eb9 hx8
          refine ⟨r, rfl, by omega, by omega, fun D0 nD => ?_⟩
          obtain ⟨x9, hx9⟩ := hp9.hasP
          have nDp : D0 ≠ p := (ne_of_none hx9 nD).symm
          have nDc : D0 ≠ c := by
            obtain ⟨xs, hx⟩ := hp9.hasC
            exact (ne_of_none hx nD).symm
          refine lc_range (lo := 0) (n := r.toNat) (fun j G => Pen G p c (40 * i + 11 + 4 * j) ∧ ExB p H9 G ∧ ∃ zs ds, G D0 = some (.lst zs) ∧ zs.length = j ∧ DqAll K D0 G zs ds ∧ (∀ d ∈ ds, GoodP d ∧ Sml d) ∧ shortAll ds = true) ⟨hp9.ex (Ex.new nD), Ex.b (Ex.new nD), [], [], upd_same, rfl, .nil, fun _ z => (nomatch z), rfl⟩ ?_ ?_
          · rintro j G hj ⟨hpG, ebG, zs, ds, hz, hzl, qs, gs, ss⟩
            refine ⟨rfl, ?_⟩
            refine yes_of ?_
            rw [if_pos rfl]
            refine ⟨.ref p, rfl, p, c, _, rfl, hpG, fun G1 eb1 hp1 => ?_⟩
            have hz1 := eb1 _ _ nDp hz
            refine ⟨p, c, D0, _, _, rfl, hp1, by omega, hz1, fun v dv G2 eb2 hp2 q sh g sm => ?_⟩
            have hz2 := eb2 _ _ nDp hz1
            obtain ⟨u1, u2, u3, h3⟩ := hpG.three
            obtain ⟨v1, v2, v3, h4⟩ := hp1.three
            have qs2 := DqAll.by3 h4 eb2 _ _ ss (DqAll.by3 h3 eb1 _ _ ss qs)
            refine ⟨zs, hz2, small1000 (by omega), (hp2.upd nDp nDc).mono (by omega), ?_, zs ++ [v], ds ++ [dv], upd_same, by rw [List.length_append, hzl]; rfl, ?_, ?_, ?_⟩
            · intro b o nb hb
              rw [upd_ne (ne_of_none hb nD)]
              exact eb2 _ _ nb (eb1 _ _ nb (ebG _ _ nb hb))
            · have up : ExB D0 G2 (upd G2 D0 (.lst (zs ++ [v]))) := ExB.upd (ExB.refl D0 G2)
              exact (DqAll.exb hz2 up _ _ qs2).append (.cons (Dq.exb hz2 up _ _ q) .nil)
            · intro d hd
              rcases List.mem_append.mp hd with hd | hd
              · exact gs d hd
              · rw [List.mem_singleton] at hd
                subst hd
                exact ⟨g, sm⟩
            · rw [shortAll_app, ss, sh]
              rfl
          · rintro G ⟨hpG, ebG, zs, ds, hz, hzl, qs, gs, ss⟩
            have hdG := Dq.exb hx9 ebG _ _ hd9
            have tG := tab_exb t9 hx9 ebG
            have gp : ∀ d ∈ ds, GoodP d := fun d h => (gs d h).1
            have dl : ds.length ≤ 4 := by
              have := qs.len
              omega
            clear hd9 t9 ebG hp9 hx9 nD
            refine n_name ?_
            dsimp only
            refine n_seq ?_
            refine s_asgP ep_none fun z8 H10 e10 pr8 => ?_
            dsimp only
            refine n_seq ?_
            have hdA := Dq.ex e10 _ _ hdG
            have hpA := hpG.ex e10
            have tA := tab_ex tG e10
            have hzA := e10 _ _ hz
            have qsA := DqAll.ex e10 _ _ qs
            clear hdG hpG tG hz qs e10
            have zl : zs.length = ds.length := qsA.len
            -- their sum
            refine ⟨.ref D0, rfl, D0, rfl, ⟨_, SqL.of hzA⟩, for_list (xs := zs) (fun j σ G => ∃ s9 z8 y11', σ = [some (.ref a), some (.ref p), some (.int (0 + (i : Nat))), some x, some y', some (.ref D), y6', some (.ref D0), some z8, s9, y10, y11'] ∧ Ex H10 G ∧ (firstBad zs ds = none → Pr K (1 + 5 * j) (s1 (ds.take j)) (s2 (ds.take j)) z8 G)) ⟨_, z8, _, rfl, Ex.refl _, fun _ => pr8.mono (by omega)⟩ (fun j σ G _ ⟨_, _, _, _, eG, _⟩ => ex_l eG (SqL.of hzA)) ?_ ?_⟩
            · rintro j v σ G hv ⟨s9, z9, y11', rfl, eG, prG⟩
              refine n_name ?_
              dsimp only
              obtain ⟨dv, hdv, qv⟩ := qsA.at j v hv
              refine ⟨.ref D0, rfl, D0, D0, zs, ds, rfl, ex_l eG (SqL.of hzA), DqAll.ex eG _ _ qsA, gp, by omega, fun G1 e1 => ⟨rfl, _, rfl, ?_⟩⟩
              cases hfb : firstBad zs ds with
              | none =>
                have fb : fbV zs ds = .non := by unfold fbV; rw [hfb]
                rw [fb]
                refine iteT ?_
                have pv := firstBad_all zl hfb dv (List.mem_of_getElem? hdv)
                obtain ⟨b1, b2⟩ := (gs dv (List.mem_of_getElem? hdv)).2 pv
                refine ⟨z9, rfl, v, rfl, z9, v, 1 + 5 * j, 4, _, _, _, _, rfl, (prG hfb).ex e1, (Dq.ex (eG.trans e1) _ _ qv).pr pv b1 b2, ?_, fun z G2 e2 prz => ?_⟩
                · have := (List.getElem?_eq_some_iff.mp hdv).1
                  omega
                · refine ⟨_, z, _, rfl, eG.trans (e1.trans e2), fun _ => ?_⟩
                  rw [s1_take hdv, s2_take hdv]
                  exact prz.mono (by omega)
              | some b =>
                have fb : fbV zs ds = .str ("pair" ++ b.2.shown) := by unfold fbV; rw [hfb]
                rw [fb]
                refine iteF ?_
                exact ⟨z9, rfl, _, z9, _, rfl, eG.trans e1, fun h => nomatch h⟩
            · rintro σ G ⟨s9, z9, y11', rfl, eG, prG⟩
              have hdB := Dq.ex eG _ _ hdA
              have hpB := hpA.ex eG
              have tB := tab_ex tA eG
              have hzB := eG _ _ hzA
              have qsB := DqAll.ex eG _ _ qsA
              rw [zl, List.take_length] at prG
              clear hdA hpA tA hzA qsA eG pr8
              refine n_seq ?_
              refine ⟨.ref D0, rfl, D0, D0, zs, ds, rfl, SqL.of hzB, qsB, gp, by omega, fun G1 e1 => ?_⟩
              replace hdB := Dq.ex e1 _ _ hdB
              replace hpB := hpB.ex e1
              replace tB := tab_ex tB e1
              replace hzB := e1 _ _ hzB
              replace qsB := DqAll.ex e1 _ _ qsB
              replace prG := fun h => (prG h).ex e1
              clear e1
              dsimp only
              -- the total, of the list or of the tuple
              refine s_join (fun σ H' => σ = [some (.ref a), some (.ref p), some (.int (0 + (i : Nat))), some x, some y', some (fbV zs ds), y6', some (.ref D0), some z9, s9, y10, y11'] ∧ Dq K p H' x d ∧ Pen H' p c (40 * i + 11 + 4 * r.toNat + 1) ∧ GxR.TabG H' T.P_add_all) (fun NX hNX => ?_) ?_
              rotate_left
              · rintro σ G2 ⟨rfl, hdC, hpC, tC⟩
                refine n_seq ?_
                -- a portion
                obtain ⟨xC, hxC⟩ := hpC.hasP
                refine ⟨.ref p, rfl, .ref p, rfl, p, c, _, rfl, hpC, by omega, fun z1 q1 G3 eb3 hp3 f1 => ?_⟩
                obtain ⟨xD, hxD⟩ := hp3.hasP
                refine ⟨.ref p, rfl, p, c, _, rfl, hp3, by omega, fun z2 q2 G4 eb4 hp4 f2 => ?_⟩
                obtain ⟨xE, hxE⟩ := hp4.hasP
                refine (mR (K := K) (p := p) hxE) G4 (Ex.refl _) _ fun vs G5 e5 qs5 => ?_
                have vl : vs.length = 5 := qs5.len
                refine ⟨by show vs.length + 1 + 1 ≤ sizeLine; rw [vl]; decide, fun l fl _ => ?_⟩
                have x5 := Ex.new (o := .lst (z1 :: z2 :: vs)) fl
                have hx5 := e5 _ _ hxE
                have nlp : l ≠ p := fun h => by
                  rw [h, hx5] at fl
                  cases fl
                refine ⟨p, c, l, z1 :: z2 :: vs, _, rfl, hp4.ex (e5.trans x5), upd_same, nlp, by show 0 < vs.length + 1 + 1; omega, by show vs.length + 1 + 1 < 1073741824; omega, by omega, fun u G6 hu eb6 hp6 => ?_⟩
                obtain ⟨du, qu, gu⟩ : ∃ du, Dq K p G6 u du ∧ GoodR du := by
                  rcases List.mem_cons.mp hu with rfl | hu
                  · exact ⟨frd q1, Dq.exb (x5 _ _ hx5) eb6 _ _ (Dq.ex (e5.trans x5) _ _ (Dq.exb hxD eb4 _ _ f1.dq)), good_fr (f1.bd.mono (by decide)), rfl, rfl, (nc_f f1.bd).mono (by decide) (by decide)⟩
                  · rcases List.mem_cons.mp hu with rfl | hu
                    · exact ⟨frd q2, Dq.exb (x5 _ _ hx5) eb6 _ _ (Dq.ex (e5.trans x5) _ _ f2.dq), good_fr (f2.bd.mono (by decide)), rfl, rfl, (nc_f f2.bd).mono (by decide) (by decide)⟩
                    · obtain ⟨dv, hdv, q⟩ := qs5.mem u hu
                      exact ⟨dv, Dq.exb (x5 _ _ hx5) eb6 _ _ (Dq.ex x5 _ _ q), goodR dv hdv⟩
                have EB6 : ExB p G2 G6 := ((eb3.trans eb4).trans (Ex.b (e5.trans x5))).trans eb6
                have hd6 := Dq.exb hxC EB6 _ _ hdC
                have t6 := tab_exb tC hxC EB6
                clear hdC hpC tC hp3 hp4 eb3 eb4 qs5 e5 x5 eb6 EB6 hu f1 f2 hx5 hxC hxD hxE fl
                dsimp only
                refine n_seq ?_
                refine ⟨x, rfl, by show 1 ≤ sizeLine; decide, fun l7 f7 _ => ?_⟩
                have x7 := Ex.new (o := .lst [x]) f7
                refine ⟨p, l7, [x], [d], rfl, SqL.of upd_same, .cons (Dq.ex x7 _ _ hd6) .nil, by simp [gd'], by show 1 ≤ 20; decide, fun G8 e8 => ?_⟩
                replace e8 := x7.trans e8
                have hd8 := Dq.ex e8 _ _ hd6
                have qu8 := Dq.ex e8 _ _ qu
                have hp8 := hp6.ex e8
                have t8 := tab_ex t6 e8
                clear hd6 qu hp6 t6 e8 x7 f7
                dsimp only
                have ngu := gu.g.nc
                refine s_join (fun σ H' => σ = [some (.ref a), some (.ref p), some (.int (0 + (i : Nat))), some x, some y', some (.str (txtO (sprOut x u d du))), y6', some (.ref D0), some z9, s9, some u, y11'] ∧ Ex G8 H') (fun NX hNX => ?_) ?_
                · refine ⟨fbV [x] [d], rfl, rfl, _, rfl, ?_⟩
                  cases hpd : prB d with
                  | false =>
                    have fb : fbV [x] [d] = .str ("pair" ++ d.shown) := by rw [fb_one, if_neg (by rw [hpd]; decide)]
                    rw [fb]
                    refine iteF ?_
                    refine n_next (hNX _ _ ⟨?_, Ex.refl _⟩)
                    rw [spr_f hpd]
                    rfl
                  | true =>
                    have fb : fbV [x] [d] = .non := by rw [fb_one, if_pos hpd]
                    rw [fb]
                    refine iteT ?_
                    refine ⟨u, rfl, u, rfl, by show 2 ≤ sizeLine; decide, fun tv ftv => ?_⟩
                    have e9 := Ex.new (o := .tup [u, u]) ftv
                    refine ⟨p, .ref tv, .tuple [du, du], rfl, .tup (SqT.of upd_same) (.cons (Dq.ex e9 _ _ qu8) (.cons (Dq.ex e9 _ _ qu8) .nil)), goodP_pr gu.g gu.g gu.sm gu.sm (by decide) (by decide) (by decide) (by simp [PyData.hasDict, PyData.hasDictAll, gu.nd]) (by simp [PyData.canLay0, PyData.canLayAll0, gu.cl]), fun G10 e10 => ?_⟩
                    have e910 := e9.trans e10
                    have qu10 := Dq.ex e910 _ _ qu8
                    cases hfu : frB du with
                    | true =>
                      refine ⟨_, rfl, ifT (by simp [prB, hfu]) ?_⟩
                      have prx := (Dq.ex e910 _ _ hd8).pr hpd gd'.b1 gd'.b2
                      have fru := qu10.fr hfu gu.g.fq
                      refine ⟨x, rfl, u, rfl, x, u, 100, 100, _, _, _, rfl, prx, fru, by decide, fun z G11 e11 prz => ?_⟩
                      have nz : Nc 1000 8 (pairD (pq1 d * frQ du) (pq2 d * frQ du)) := by
                        obtain ⟨_, _, _, _, _, g1, g2⟩ := prz
                        exact (nc_pr g1.bd g2.bd (by decide) (by decide)).mono (by decide) (by decide)
                      have lz := nz.len (by decide)
                      have sl : 1000 ≤ sizeLine := by decide
                      refine ⟨z, _, p, rfl, .inl prz.dq, nz.sh, Nat.le_trans nz.dp (by decide), Nat.le_trans lz sl, ?_⟩
                      refine hNX _ _ ⟨?_, e910.trans e11⟩
                      rw [spr_n hpd hfu]
                      rfl
                    | false =>
                      refine ⟨_, rfl, ifF (by simp [prB, hfu]) ?_⟩
                      have lz := ngu.len (by decide)
                      have sl : 1008 ≤ sizeLine := by decide
                      have b8 : (("fraction" : String) : Str).length = 8 := by decide
                      refine ⟨u, rfl, u, du, p, rfl, .inl qu10, ngu.sh, Nat.le_trans ngu.dp (by decide), by omega, _, _, rfl, rfl, by omega, ?_⟩
                      refine hNX _ _ ⟨?_, e910⟩
                      rw [spr_s hpd hfu]
                      rfl
                · rintro σ G9 ⟨rfl, e9⟩
                  have hd9 := Dq.ex e9 _ _ hd8
                  have qu9 := Dq.ex e9 _ _ qu8
                  have hp9 := hp8.ex e9
                  have t9 := tab_ex t8 e9
                  have val : ValO K p G9 (sprOut x u d du) := by
                    cases hpd : prB d with
                    | false => rw [spr_f hpd]; exact ⟨hd9, gd'.nc.mono (by decide) (by decide)⟩
                    | true =>
                      cases hfu : frB du with
                      | false => rw [spr_s hpd hfu]; exact ⟨qu9, ngu.mono (by decide) (by decide)⟩
                      | true =>
                        rw [spr_n hpd hfu]
                        exact (nc_pr (bd_mulR gd'.b1 gu.g.fq) (bd_mulR gd'.b2 gu.g.fq) (by decide) (by decide)).mono (by decide) (by decide)
                  refine ⟨x, rfl, u, rfl, p, "spread", x, u, d, du, sprOut x u d du, rfl, Dq.dp _ _ gd'.nd hd9, Dq.dp _ _ gu.nd qu9, gd'.nc.mono (by decide) (by decide), ngu.mono (by decide) (by decide), .inr (.inr ⟨rfl, d, du, hd9, qu9, gd', gu.g, rfl⟩), val, t9, fun G10 eb10 t10 => ?_⟩
                  refine ⟨_, rfl, rfl, _, rfl, ?_⟩
                  refine ifF ?_ ?_
                  · rw [decide_eq_true rfl]
                    rfl
                  exact n_next ⟨⟨_, _, _, _, _, _, _, _, _, _, rfl⟩, (hp9.tb t9 eb10).mono (by omega), t10⟩
              refine ⟨.ref p, rfl, .ref D0, rfl, .ref D0, rfl, D0, zs, rfl, .inl ⟨SqL.of hzB, fun t1 ft => ?_⟩⟩
              have x1 := Ex.new (o := .tup zs) ft
              refine ⟨by show 2 ≤ sizeLine; decide, fun l fl _ => ?_⟩
              have x2 := Ex.new (o := .lst [.ref D0, .ref t1]) fl
              obtain ⟨xB, hxB⟩ := hpB.hasP
              have hx2 := (x1.trans x2) _ _ hxB
              have nlp : l ≠ p := fun e => by
                rw [e, x1 _ _ hxB] at fl
                cases fl
              refine ⟨p, c, l, [.ref D0, .ref t1], _, rfl, hpB.ex (x1.trans x2), upd_same, nlp, by show 0 < 2; decide, by show 2 < 1073741824; decide, by omega, fun u G5 hu eb5 hp5 => ?_⟩
              have EB5 : ExB p G1 G5 := (Ex.b (x1.trans x2)).trans eb5
              have hd5 := Dq.exb hxB EB5 _ _ hdB
              have t5 := tab_exb tB hxB EB5
              have hz5 := EB5 _ _ nDp hzB
              obtain ⟨v1, v2, v3, h3⟩ := hpB.three
              have qs5 := DqAll.by3 h3 EB5 _ _ ss qsB
              have prG5 : firstBad zs ds = none → Pr K (1 + 5 * ds.length) (s1 ds) (s2 ds) z9 G5 := fun h => (prG h).lst hxB EB5
              have ndA : PyData.hasDictAll ds = false := hasDictAll_of fun d hd => (gp d hd).nd
              have dpA := DqAll.dp _ _ ndA qs5
              have ncA : NcA 4100 6 ds := nca_of dl fun d hd => (gp d hd).nc
              obtain ⟨au, du, rfl, hsq, hdp, hnc⟩ : ∃ au du, u = .ref au ∧ (SqL K G5 au zs ∨ SqT K G5 au zs) ∧ Dp K G5 (.ref au) du ∧ Nc 40000 20 du := by
                simp only [List.mem_cons, List.not_mem_nil, or_false] at hu
                rcases hu with rfl | rfl
                · exact ⟨D0, .list ds, rfl, .inl (SqL.of hz5), .lst (SqL.of hz5) dpA, (nc_lst ncA).mono (by decide) (by decide)⟩
                · have ht1 : SqT K G5 t1 zs := tup_lst hx2 eb5 (ex_t x2 (SqT.of upd_same))
                  exact ⟨t1, .tuple ds, rfl, .inr ht1, .tup ht1 dpA, (nc_tup ncA).mono (by decide) (by decide)⟩
              clear hdB tB hzB qsB prG x1 x2 ft fl nlp hx2 hu EB5
              have val : ValO K D0 G5 (totOut zs ds) := by
                cases hfb : firstBad zs ds with
                | none =>
                  rw [tot_n hfb]
                  obtain ⟨_, _, _, _, _, f1, f2⟩ := prG5 hfb
                  exact (nc_pr f1.bd f2.bd (by omega) (by omega)).mono (by omega) (by decide)
                | some b =>
                  obtain ⟨x', d'⟩ := b
                  obtain ⟨q, hm⟩ := firstBad_dq qs5 hfb
                  rw [tot_s hfb]
                  exact ⟨q, (gp d' hm).nc.mono (by decide) (by decide)⟩
              refine ⟨D0, "total", .ref au, .non, du, .none, totOut zs ds, rfl, hdp, .non, hnc, nc_none.mono (by decide) (by decide), .inr (.inl ⟨rfl, au, zs, ds, rfl, hsq, qs5, gp, by omega, rfl⟩), val, t5, fun G6 eb6 t6 => ?_⟩
              have hd6 := Dq.tb t5 eb6 _ _ hd5
              have hp6 := hp5.tb t5 eb6
              have prG6 : firstBad zs ds = none → Dq K D0 G6 z9 (pairD (s1 ds) (s2 ds)) ∧ Nc (4 * (1 + 5 * ds.length) + 40) 8 (pairD (s1 ds) (s2 ds)) := fun h => by
                have pr := prG5 h
                refine ⟨Dq.tb t5 eb6 _ _ pr.dq, ?_⟩
                obtain ⟨_, _, _, _, _, f1, f2⟩ := pr
                exact nc_pr f1.bd f2.bd (by omega) (by omega)
              clear hd5 hp5 prG5 eb6 t5 qs5 hz5 hsq hdp hnc val dpA ncA
              refine ⟨fbV zs ds, rfl, rfl, _, rfl, ?_⟩
              cases hfb : firstBad zs ds with
              | none =>
                have fb : fbV zs ds = .non := by unfold fbV; rw [hfb]
                rw [fb] at hNX ⊢
                rw [tot_n hfb]
                obtain ⟨q9, n9⟩ := prG6 hfb
                refine iteT ?_
                have n9' : Nc 1000 8 (pairD (s1 ds) (s2 ds)) := n9.mono (by omega) (Nat.le_refl _)
                have ln := n9'.len (by decide)
                have sl : 1000 ≤ sizeLine := by decide
                generalize pairD (s1 ds) (s2 ds) = dz at q9 n9' ln ⊢
                refine ⟨z9, rfl, z9, dz, D0, rfl, .inl q9, n9'.sh, Nat.le_trans n9'.dp (by decide), Nat.le_trans ln sl, rfl, _, rfl, ?_⟩
                refine ifF ?_ ?_
                · show (!decide (V.str dz.shown = V.str dz.shown)) = false
                  rw [decide_eq_true rfl]
                  rfl
                exact n_next (hNX _ _ ⟨rfl, hd6, hp6, t6⟩)
              | some b =>
                obtain ⟨x', d'⟩ := b
                have fb : fbV zs ds = .str ("pair" ++ d'.shown) := by unfold fbV; rw [hfb]
                rw [fb] at hNX ⊢
                rw [tot_s hfb]
                refine iteF ?_
                refine ⟨_, rfl, rfl, _, rfl, ?_⟩
                refine ifF ?_ ?_
                · show (!decide (V.str ("pair" ++ d'.shown) = V.str ("pair" ++ d'.shown))) = false
                  rw [decide_eq_true rfl]
                  rfl
                exact n_next (hNX _ _ ⟨rfl, hd6, hp6, t6⟩)
    · rintro σ H' ⟨⟨y2, y3, y4, y5, y6, y7, y8, y9, y10, y11, rfl⟩, hp', ht'⟩
      exact k H'
end
def CodeK (oc : Value) (vs : Array Value) (c P : Addr) : Prop := ∃ (file : Str) (tf : Tok) (flags : Int) (tg : Tok) (inF : Bool) (text : Int) (tt : Tok), oc = .type "code" ∧ vs.getD 11 .none = .ref P ∧ vs.getD 18 .none = .str file tf ∧
  vs.getD 7 .none = .int flags tg ∧ vs.getD 9 .none = .bool inF ∧ vs.getD 10 .none = .int text tt ∧ c ≠ P
theorem all_mk {l : PySem.W.OpenLaw} {w : World} {K : PySem.W.Frag} {h : Heap} {mg : Str → Option Value} {fa : Addr} (X : K.In h) (G : h.Ns mainGlobals mg) (hfa : mg "law" = some (.ref fa)) (hE : TabE K "add_all" mg h)
    {od1 an1 : Option Addr} {sl1 : Array (Option Value)} {oc1 kV1 dc1 pm1 cd1 ct1 : Value} {f1 : Addr}
    {od2 an2 : Option Addr} {sl2 : Array (Option Value)} {oc2 kV2 dc2 pm2 cd2 ct2 : Value} {f2 : Addr}
    {od3 an3 : Option Addr} {sl3 : Array (Option Value)} {oc3 kV3 dc3 pm3 cd3 ct3 : Value} {f3 : Addr}
    {od4 an4 : Option Addr} {sl4 : Array (Option Value)} {oc4 kV4 dc4 pm4 cd4 ct4 : Value} {f4 : Addr}
    {od5 an5 : Option Addr} {sl5 : Array (Option Value)} {oc5 kV5 dc5 pm5 cd5 ct5 : Value} {f5 : Addr}
    {od6 an6 : Option Addr} {sl6 : Array (Option Value)} {oc6 kV6 dc6 pm6 cd6 ct6 : Value} {f6 : Addr}
    {od7 an7 : Option Addr} {sl7 : Array (Option Value)} {oc7 kV7 dc7 pm7 cd7 ct7 : Value} {f7 : Addr}
    {od8 an8 : Option Addr} {sl8 : Array (Option Value)} {oc8 kV8 dc8 pm8 cd8 ct8 : Value} {f8 : Addr}
    {od9 an9 : Option Addr} {sl9 : Array (Option Value)} {oc9 kV9 dc9 pm9 cd9 ct9 : Value} {f9 : Addr}
    {od10 an10 : Option Addr} {sl10 : Array (Option Value)} {oc10 kV10 dc10 pm10 cd10 ct10 : Value} {f10 : Addr}
    {od11 an11 : Option Addr} {sl11 : Array (Option Value)} {oc11 kV11 dc11 pm11 cd11 ct11 : Value} {f11 : Addr}
    {od12 an12 : Option Addr} {sl12 : Array (Option Value)} {oc12 kV12 dc12 pm12 cd12 ct12 : Value} {f12 : Addr}
    {od13 an13 : Option Addr} {sl13 : Array (Option Value)} {oc13 kV13 dc13 pm13 cd13 ct13 : Value} {f13 : Addr}
    {od14 an14 : Option Addr} {sl14 : Array (Option Value)} {oc14 kV14 dc14 pm14 cd14 ct14 : Value} {f14 : Addr}
    {od15 an15 : Option Addr} {sl15 : Array (Option Value)} {oc15 kV15 dc15 pm15 cd15 ct15 : Value} {f15 : Addr}
    {od16 an16 : Option Addr} {sl16 : Array (Option Value)} {oc16 kV16 dc16 pm16 cd16 ct16 : Value} {f16 : Addr}
    {od17 an17 : Option Addr} {sl17 : Array (Option Value)} {oc17 kV17 dc17 pm17 cd17 ct17 : Value} {f17 : Addr}
    {od18 an18 : Option Addr} {sl18 : Array (Option Value)} {oc18 kV18 dc18 pm18 cd18 ct18 : Value} {f18 : Addr}
    {od19 an19 : Option Addr} {sl19 : Array (Option Value)} {oc19 kV19 dc19 pm19 cd19 ct19 : Value} {f19 : Addr}
    {od20 an20 : Option Addr} {sl20 : Array (Option Value)} {oc20 kV20 dc20 pm20 cd20 ct20 : Value} {f20 : Addr}
    {od21 an21 : Option Addr} {sl21 : Array (Option Value)} {oc21 kV21 dc21 pm21 cd21 ct21 : Value} {f21 : Addr}
    {od22 an22 : Option Addr} {sl22 : Array (Option Value)} {oc22 kV22 dc22 pm22 cd22 ct22 : Value} {f22 : Addr}
    {od23 an23 : Option Addr} {sl23 : Array (Option Value)} {oc23 kV23 dc23 pm23 cd23 ct23 : Value} {f23 : Addr}
    {od24 an24 : Option Addr} {sl24 : Array (Option Value)} {oc24 kV24 dc24 pm24 cd24 ct24 : Value} {f24 : Addr}
    {od25 an25 : Option Addr} {sl25 : Array (Option Value)} {oc25 kV25 dc25 pm25 cd25 ct25 : Value} {f25 : Addr}
    {od26 an26 : Option Addr} {sl26 : Array (Option Value)} {oc26 kV26 dc26 pm26 cd26 ct26 : Value} {f26 : Addr}
    {od27 an27 : Option Addr} {sl27 : Array (Option Value)} {oc27 kV27 dc27 pm27 cd27 ct27 : Value} {f27 : Addr}
    {od28 an28 : Option Addr} {sl28 : Array (Option Value)} {oc28 kV28 dc28 pm28 cd28 ct28 : Value} {f28 : Addr}
    {od29 an29 : Option Addr} {sl29 : Array (Option Value)} {oc29 kV29 dc29 pm29 cd29 ct29 : Value} {f29 : Addr}
    {od30 an30 : Option Addr} {sl30 : Array (Option Value)} {oc30 kV30 dc30 pm30 cd30 ct30 : Value} {f30 : Addr}
    {od31 an31 : Option Addr} {sl31 : Array (Option Value)} {oc31 kV31 dc31 pm31 cd31 ct31 : Value} {f31 : Addr}
    {od32 an32 : Option Addr} {sl32 : Array (Option Value)} {oc32 kV32 dc32 pm32 cd32 ct32 : Value} {f32 : Addr}
    {od33 an33 : Option Addr} {sl33 : Array (Option Value)} {oc33 kV33 dc33 pm33 cd33 ct33 : Value} {f33 : Addr}
    {od34 an34 : Option Addr} {sl34 : Array (Option Value)} {oc34 kV34 dc34 pm34 cd34 ct34 : Value} {f34 : Addr}
    {od35 an35 : Option Addr} {sl35 : Array (Option Value)} {oc35 kV35 dc35 pm35 cd35 ct35 : Value} {f35 : Addr}
    {od36 an36 : Option Addr} {sl36 : Array (Option Value)} {oc36 kV36 dc36 pm36 cd36 ct36 : Value} {f36 : Addr}
    {od37 an37 : Option Addr} {sl37 : Array (Option Value)} {oc37 kV37 dc37 pm37 cd37 ct37 : Value} {f37 : Addr}
    {od38 an38 : Option Addr} {sl38 : Array (Option Value)} {oc38 kV38 dc38 pm38 cd38 ct38 : Value} {f38 : Addr}
    {od39 an39 : Option Addr} {sl39 : Array (Option Value)} {oc39 kV39 dc39 pm39 cd39 ct39 : Value} {f39 : Addr}
    {od40 an40 : Option Addr} {sl40 : Array (Option Value)} {oc40 kV40 dc40 pm40 cd40 ct40 : Value} {f40 : Addr}
    {od41 an41 : Option Addr} {sl41 : Array (Option Value)} {oc41 kV41 dc41 pm41 cd41 ct41 : Value} {f41 : Addr}
    {CM_ fM_ : Addr} {odM_ anM_ : Option Addr} {slM_ : Array (Option Value)} {ocM_ kVM_ dcM_ pmM_ cdM_ ctM_ : Value}
    {C_BadFraction f_BadFraction : Addr} {od_BadFraction an_BadFraction : Option Addr} {sl_BadFraction : Array (Option Value)} {oc_BadFraction kV_BadFraction dc_BadFraction pm_BadFraction cd_BadFraction ct_BadFraction : Value}
    {C_BadPair f_BadPair : Addr} {od_BadPair an_BadPair : Option Addr} {sl_BadPair : Array (Option Value)} {oc_BadPair kV_BadPair dc_BadPair pm_BadPair cd_BadPair ct_BadPair : Value}
    {cA PA : Addr} {ocA : Value} {ddA : Option Addr} {vsA : Array Value} {slA : Array (Option Value)}
    (a1 : PySem.W.nsIn K mainGlobals "is_whole" = some (some (.ref f1))) (l1 : K.lookup f1 = some ⟨oc1, od1, .func (PySem.W.fnOf "is_whole" "is_whole" (defArgs s_is_whole) (defBody s_is_whole) (defScope s_is_whole) .none kV1 dc1 pm1 an1 cd1 ct1), sl1⟩) (c1 : PySem.W.codeIn K cd1 "is_whole" = true) (k1 : PySem.W.keepIn K (.ref f1) = true)
    (a2 : PySem.W.nsIn K mainGlobals "is_fraction" = some (some (.ref f2))) (l2 : K.lookup f2 = some ⟨oc2, od2, .func (PySem.W.fnOf "is_fraction" "is_fraction" (defArgs s_is_fraction) (defBody s_is_fraction) (defScope s_is_fraction) .none kV2 dc2 pm2 an2 cd2 ct2), sl2⟩) (c2 : PySem.W.codeIn K cd2 "is_fraction" = true) (k2 : PySem.W.keepIn K (.ref f2) = true)
    (a3 : PySem.W.nsIn K mainGlobals "require_fraction" = some (some (.ref f3))) (l3 : K.lookup f3 = some ⟨oc3, od3, .func (PySem.W.fnOf "require_fraction" "require_fraction" (defArgs s_require_fraction) (defBody s_require_fraction) (defScope s_require_fraction) .none kV3 dc3 pm3 an3 cd3 ct3), sl3⟩) (c3 : PySem.W.codeIn K cd3 "require_fraction" = true) (k3 : PySem.W.keepIn K (.ref f3) = true)
    (a4 : PySem.W.nsIn K mainGlobals "lowest" = some (some (.ref f4))) (l4 : K.lookup f4 = some ⟨oc4, od4, .func (PySem.W.fnOf "lowest" "lowest" (defArgs s_lowest) (defBody s_lowest) (defScope s_lowest) .none kV4 dc4 pm4 an4 cd4 ct4), sl4⟩) (c4 : PySem.W.codeIn K cd4 "lowest" = true) (k4 : PySem.W.keepIn K (.ref f4) = true)
    (a5 : PySem.W.nsIn K mainGlobals "multiply" = some (some (.ref f5))) (l5 : K.lookup f5 = some ⟨oc5, od5, .func (PySem.W.fnOf "multiply" "multiply" (defArgs s_multiply) (defBody s_multiply) (defScope s_multiply) .none kV5 dc5 pm5 an5 cd5 ct5), sl5⟩) (c5 : PySem.W.codeIn K cd5 "multiply" = true) (k5 : PySem.W.keepIn K (.ref f5) = true)
    (a6 : PySem.W.nsIn K mainGlobals "add_all" = some (some (.ref f6))) (l6 : K.lookup f6 = some ⟨oc6, od6, .func (PySem.W.fnOf "add_all" "add_all" (defArgs s_add_all) (defBody s_add_all) (defScope s_add_all) .none kV6 dc6 pm6 an6 cd6 ct6), sl6⟩) (c6 : PySem.W.codeIn K cd6 "add_all" = true) (k6 : PySem.W.keepIn K (.ref f6) = true)
    (a7 : PySem.W.nsIn K mainGlobals "is_pair" = some (some (.ref f7))) (l7 : K.lookup f7 = some ⟨oc7, od7, .func (PySem.W.fnOf "is_pair" "is_pair" (defArgs s_is_pair) (defBody s_is_pair) (defScope s_is_pair) .none kV7 dc7 pm7 an7 cd7 ct7), sl7⟩) (c7 : PySem.W.codeIn K cd7 "is_pair" = true) (k7 : PySem.W.keepIn K (.ref f7) = true)
    (a8 : PySem.W.nsIn K mainGlobals "require_pair" = some (some (.ref f8))) (l8 : K.lookup f8 = some ⟨oc8, od8, .func (PySem.W.fnOf "require_pair" "require_pair" (defArgs s_require_pair) (defBody s_require_pair) (defScope s_require_pair) .none kV8 dc8 pm8 an8 cd8 ct8), sl8⟩) (c8 : PySem.W.codeIn K cd8 "require_pair" = true) (k8 : PySem.W.keepIn K (.ref f8) = true)
    (a9 : PySem.W.nsIn K mainGlobals "require_pairs" = some (some (.ref f9))) (l9 : K.lookup f9 = some ⟨oc9, od9, .func (PySem.W.fnOf "require_pairs" "require_pairs" (defArgs s_require_pairs) (defBody s_require_pairs) (defScope s_require_pairs) .none kV9 dc9 pm9 an9 cd9 ct9), sl9⟩) (c9 : PySem.W.codeIn K cd9 "require_pairs" = true) (k9 : PySem.W.keepIn K (.ref f9) = true)
    (a10 : PySem.W.nsIn K mainGlobals "arrow" = some (some (.ref f10))) (l10 : K.lookup f10 = some ⟨oc10, od10, .func (PySem.W.fnOf "arrow" "arrow" (defArgs s_arrow) (defBody s_arrow) (defScope s_arrow) .none kV10 dc10 pm10 an10 cd10 ct10), sl10⟩) (c10 : PySem.W.codeIn K cd10 "arrow" = true) (k10 : PySem.W.keepIn K (.ref f10) = true)
    (a11 : PySem.W.nsIn K mainGlobals "turn" = some (some (.ref f11))) (l11 : K.lookup f11 = some ⟨oc11, od11, .func (PySem.W.fnOf "turn" "turn" (defArgs s_turn) (defBody s_turn) (defScope s_turn) .none kV11 dc11 pm11 an11 cd11 ct11), sl11⟩) (c11 : PySem.W.codeIn K cd11 "turn" = true) (k11 : PySem.W.keepIn K (.ref f11) = true)
    (a12 : PySem.W.nsIn K mainGlobals "turn_of_pairs" = some (some (.ref f12))) (l12 : K.lookup f12 = some ⟨oc12, od12, .func (PySem.W.fnOf "turn_of_pairs" "turn_of_pairs" (defArgs s_turn_of_pairs) (defBody s_turn_of_pairs) (defScope s_turn_of_pairs) .none kV12 dc12 pm12 an12 cd12 ct12), sl12⟩) (c12 : PySem.W.codeIn K cd12 "turn_of_pairs" = true) (k12 : PySem.W.keepIn K (.ref f12) = true)
    (a13 : PySem.W.nsIn K mainGlobals "add_pairs" = some (some (.ref f13))) (l13 : K.lookup f13 = some ⟨oc13, od13, .func (PySem.W.fnOf "add_pairs" "add_pairs" (defArgs s_add_pairs) (defBody s_add_pairs) (defScope s_add_pairs) .none kV13 dc13 pm13 an13 cd13 ct13), sl13⟩) (c13 : PySem.W.codeIn K cd13 "add_pairs" = true) (k13 : PySem.W.keepIn K (.ref f13) = true)
    (a14 : PySem.W.nsIn K mainGlobals "multiply_pair" = some (some (.ref f14))) (l14 : K.lookup f14 = some ⟨oc14, od14, .func (PySem.W.fnOf "multiply_pair" "multiply_pair" (defArgs s_multiply_pair) (defBody s_multiply_pair) (defScope s_multiply_pair) .none kV14 dc14 pm14 an14 cd14 ct14), sl14⟩) (c14 : PySem.W.codeIn K cd14 "multiply_pair" = true) (k14 : PySem.W.keepIn K (.ref f14) = true)
    (a15 : PySem.W.nsIn K mainGlobals "is_ahead" = some (some (.ref f15))) (l15 : K.lookup f15 = some ⟨oc15, od15, .func (PySem.W.fnOf "is_ahead" "is_ahead" (defArgs s_is_ahead) (defBody s_is_ahead) (defScope s_is_ahead) .none kV15 dc15 pm15 an15 cd15 ct15), sl15⟩) (c15 : PySem.W.codeIn K cd15 "is_ahead" = true) (k15 : PySem.W.keepIn K (.ref f15) = true)
    (a16 : PySem.W.nsIn K mainGlobals "are_level" = some (some (.ref f16))) (l16 : K.lookup f16 = some ⟨oc16, od16, .func (PySem.W.fnOf "are_level" "are_level" (defArgs s_are_level) (defBody s_are_level) (defScope s_are_level) .none kV16 dc16 pm16 an16 cd16 ct16), sl16⟩) (c16 : PySem.W.codeIn K cd16 "are_level" = true) (k16 : PySem.W.keepIn K (.ref f16) = true)
    (a17 : PySem.W.nsIn K mainGlobals "total" = some (some (.ref f17))) (l17 : K.lookup f17 = some ⟨oc17, od17, .func (PySem.W.fnOf "total" "total" (defArgs s_total) (defBody s_total) (defScope s_total) .none kV17 dc17 pm17 an17 cd17 ct17), sl17⟩) (c17 : PySem.W.codeIn K cd17 "total" = true) (k17 : PySem.W.keepIn K (.ref f17) = true)
    (a18 : PySem.W.nsIn K mainGlobals "spread" = some (some (.ref f18))) (l18 : K.lookup f18 = some ⟨oc18, od18, .func (PySem.W.fnOf "spread" "spread" (defArgs s_spread) (defBody s_spread) (defScope s_spread) .none kV18 dc18 pm18 an18 cd18 ct18), sl18⟩) (c18 : PySem.W.codeIn K cd18 "spread" = true) (k18 : PySem.W.keepIn K (.ref f18) = true)
    (a19 : PySem.W.nsIn K mainGlobals "_law_spread" = some (some (.ref f19))) (l19 : K.lookup f19 = some ⟨oc19, od19, .func (PySem.W.fnOf "_law_spread" "_law_spread" (defArgs s__law_spread) (defBody s__law_spread) (defScope s__law_spread) .none kV19 dc19 pm19 an19 cd19 ct19), sl19⟩) (c19 : PySem.W.codeIn K cd19 "_law_spread" = true) (k19 : PySem.W.keepIn K (.ref f19) = true)
    (a20 : PySem.W.nsIn K mainGlobals "_law_open" = some (some (.ref f20))) (l20 : K.lookup f20 = some ⟨oc20, od20, .func (PySem.W.fnOf "_law_open" "_law_open" (defArgs s__law_open) (defBody s__law_open) (defScope s__law_open) .none kV20 dc20 pm20 an20 cd20 ct20), sl20⟩) (c20 : PySem.W.codeIn K cd20 "_law_open" = true) (k20 : PySem.W.keepIn K (.ref f20) = true)
    (a21 : PySem.W.nsIn K mainGlobals "_law_take" = some (some (.ref f21))) (l21 : K.lookup f21 = some ⟨oc21, od21, .func (PySem.W.fnOf "_law_take" "_law_take" (defArgs s__law_take) (defBody s__law_take) (defScope s__law_take) .none kV21 dc21 pm21 an21 cd21 ct21), sl21⟩) (c21 : PySem.W.codeIn K cd21 "_law_take" = true) (k21 : PySem.W.keepIn K (.ref f21) = true)
    (a22 : PySem.W.nsIn K mainGlobals "_law_anew" = some (some (.ref f22))) (l22 : K.lookup f22 = some ⟨oc22, od22, .func (PySem.W.fnOf "_law_anew" "_law_anew" (defArgs s__law_anew) (defBody s__law_anew) (defScope s__law_anew) .none kV22 dc22 pm22 an22 cd22 ct22), sl22⟩) (c22 : PySem.W.codeIn K cd22 "_law_anew" = true) (k22 : PySem.W.keepIn K (.ref f22) = true)
    (a23 : PySem.W.nsIn K mainGlobals "_law_one" = some (some (.ref f23))) (l23 : K.lookup f23 = some ⟨oc23, od23, .func (PySem.W.fnOf "_law_one" "_law_one" (defArgs s__law_one) (defBody s__law_one) (defScope s__law_one) .none kV23 dc23 pm23 an23 cd23 ct23), sl23⟩) (c23 : PySem.W.codeIn K cd23 "_law_one" = true) (k23 : PySem.W.keepIn K (.ref f23) = true)
    (a24 : PySem.W.nsIn K mainGlobals "_law_is_whole" = some (some (.ref f24))) (l24 : K.lookup f24 = some ⟨oc24, od24, .func (PySem.W.fnOf "_law_is_whole" "_law_is_whole" (defArgs s__law_is_whole) (defBody s__law_is_whole) (defScope s__law_is_whole) .none kV24 dc24 pm24 an24 cd24 ct24), sl24⟩) (c24 : PySem.W.codeIn K cd24 "_law_is_whole" = true) (k24 : PySem.W.keepIn K (.ref f24) = true)
    (a25 : PySem.W.nsIn K mainGlobals "_law_common" = some (some (.ref f25))) (l25 : K.lookup f25 = some ⟨oc25, od25, .func (PySem.W.fnOf "_law_common" "_law_common" (defArgs s__law_common) (defBody s__law_common) (defScope s__law_common) .none kV25 dc25 pm25 an25 cd25 ct25), sl25⟩) (c25 : PySem.W.codeIn K cd25 "_law_common" = true) (k25 : PySem.W.keepIn K (.ref f25) = true)
    (a26 : PySem.W.nsIn K mainGlobals "_law_low" = some (some (.ref f26))) (l26 : K.lookup f26 = some ⟨oc26, od26, .func (PySem.W.fnOf "_law_low" "_law_low" (defArgs s__law_low) (defBody s__law_low) (defScope s__law_low) .none kV26 dc26 pm26 an26 cd26 ct26), sl26⟩) (c26 : PySem.W.codeIn K cd26 "_law_low" = true) (k26 : PySem.W.keepIn K (.ref f26) = true)
    (a27 : PySem.W.nsIn K mainGlobals "_law_add" = some (some (.ref f27))) (l27 : K.lookup f27 = some ⟨oc27, od27, .func (PySem.W.fnOf "_law_add" "_law_add" (defArgs s__law_add) (defBody s__law_add) (defScope s__law_add) .none kV27 dc27 pm27 an27 cd27 ct27), sl27⟩) (c27 : PySem.W.codeIn K cd27 "_law_add" = true) (k27 : PySem.W.keepIn K (.ref f27) = true)
    (a28 : PySem.W.nsIn K mainGlobals "_law_sub" = some (some (.ref f28))) (l28 : K.lookup f28 = some ⟨oc28, od28, .func (PySem.W.fnOf "_law_sub" "_law_sub" (defArgs s__law_sub) (defBody s__law_sub) (defScope s__law_sub) .none kV28 dc28 pm28 an28 cd28 ct28), sl28⟩) (c28 : PySem.W.codeIn K cd28 "_law_sub" = true) (k28 : PySem.W.keepIn K (.ref f28) = true)
    (a29 : PySem.W.nsIn K mainGlobals "_law_mul" = some (some (.ref f29))) (l29 : K.lookup f29 = some ⟨oc29, od29, .func (PySem.W.fnOf "_law_mul" "_law_mul" (defArgs s__law_mul) (defBody s__law_mul) (defScope s__law_mul) .none kV29 dc29 pm29 an29 cd29 ct29), sl29⟩) (c29 : PySem.W.codeIn K cd29 "_law_mul" = true) (k29 : PySem.W.keepIn K (.ref f29) = true)
    (a30 : PySem.W.nsIn K mainGlobals "_law_sign" = some (some (.ref f30))) (l30 : K.lookup f30 = some ⟨oc30, od30, .func (PySem.W.fnOf "_law_sign" "_law_sign" (defArgs s__law_sign) (defBody s__law_sign) (defScope s__law_sign) .none kV30 dc30 pm30 an30 cd30 ct30), sl30⟩) (c30 : PySem.W.codeIn K cd30 "_law_sign" = true) (k30 : PySem.W.keepIn K (.ref f30) = true)
    (a31 : PySem.W.nsIn K mainGlobals "_law_turn" = some (some (.ref f31))) (l31 : K.lookup f31 = some ⟨oc31, od31, .func (PySem.W.fnOf "_law_turn" "_law_turn" (defArgs s__law_turn) (defBody s__law_turn) (defScope s__law_turn) .none kV31 dc31 pm31 an31 cd31 ct31), sl31⟩) (c31 : PySem.W.codeIn K cd31 "_law_turn" = true) (k31 : PySem.W.keepIn K (.ref f31) = true)
    (a32 : PySem.W.nsIn K mainGlobals "_law_join" = some (some (.ref f32))) (l32 : K.lookup f32 = some ⟨oc32, od32, .func (PySem.W.fnOf "_law_join" "_law_join" (defArgs s__law_join) (defBody s__law_join) (defScope s__law_join) .none kV32 dc32 pm32 an32 cd32 ct32), sl32⟩) (c32 : PySem.W.codeIn K cd32 "_law_join" = true) (k32 : PySem.W.keepIn K (.ref f32) = true)
    (a33 : PySem.W.nsIn K mainGlobals "_law_times" = some (some (.ref f33))) (l33 : K.lookup f33 = some ⟨oc33, od33, .func (PySem.W.fnOf "_law_times" "_law_times" (defArgs s__law_times) (defBody s__law_times) (defScope s__law_times) .none kV33 dc33 pm33 an33 cd33 ct33), sl33⟩) (c33 : PySem.W.codeIn K cd33 "_law_times" = true) (k33 : PySem.W.keepIn K (.ref f33) = true)
    (a34 : PySem.W.nsIn K mainGlobals "_law_none" = some (some (.ref f34))) (l34 : K.lookup f34 = some ⟨oc34, od34, .func (PySem.W.fnOf "_law_none" "_law_none" (defArgs s__law_none) (defBody s__law_none) (defScope s__law_none) .none kV34 dc34 pm34 an34 cd34 ct34), sl34⟩) (c34 : PySem.W.codeIn K cd34 "_law_none" = true) (k34 : PySem.W.keepIn K (.ref f34) = true)
    (a35 : PySem.W.nsIn K mainGlobals "_law_amount" = some (some (.ref f35))) (l35 : K.lookup f35 = some ⟨oc35, od35, .func (PySem.W.fnOf "_law_amount" "_law_amount" (defArgs s__law_amount) (defBody s__law_amount) (defScope s__law_amount) .none kV35 dc35 pm35 an35 cd35 ct35), sl35⟩) (c35 : PySem.W.codeIn K cd35 "_law_amount" = true) (k35 : PySem.W.keepIn K (.ref f35) = true)
    (a36 : PySem.W.nsIn K mainGlobals "_law_any" = some (some (.ref f36))) (l36 : K.lookup f36 = some ⟨oc36, od36, .func (PySem.W.fnOf "_law_any" "_law_any" (defArgs s__law_any) (defBody s__law_any) (defScope s__law_any) .none kV36 dc36 pm36 an36 cd36 ct36), sl36⟩) (c36 : PySem.W.codeIn K cd36 "_law_any" = true) (k36 : PySem.W.keepIn K (.ref f36) = true)
    (a37 : PySem.W.nsIn K mainGlobals "_law_is" = some (some (.ref f37))) (l37 : K.lookup f37 = some ⟨oc37, od37, .func (PySem.W.fnOf "_law_is" "_law_is" (defArgs s__law_is) (defBody s__law_is) (defScope s__law_is) .none kV37 dc37 pm37 an37 cd37 ct37), sl37⟩) (c37 : PySem.W.codeIn K cd37 "_law_is" = true) (k37 : PySem.W.keepIn K (.ref f37) = true)
    (a38 : PySem.W.nsIn K mainGlobals "_law_call" = some (some (.ref f38))) (l38 : K.lookup f38 = some ⟨oc38, od38, .func (PySem.W.fnOf "_law_call" "_law_call" (defArgs s__law_call) (defBody s__law_call) (defScope s__law_call) .none kV38 dc38 pm38 an38 cd38 ct38), sl38⟩) (c38 : PySem.W.codeIn K cd38 "_law_call" = true) (k38 : PySem.W.keepIn K (.ref f38) = true)
    (a39 : PySem.W.nsIn K mainGlobals "_law_told" = some (some (.ref f39))) (l39 : K.lookup f39 = some ⟨oc39, od39, .func (PySem.W.fnOf "_law_told" "_law_told" (defArgs s__law_told) (defBody s__law_told) (defScope s__law_told) .none kV39 dc39 pm39 an39 cd39 ct39), sl39⟩) (c39 : PySem.W.codeIn K cd39 "_law_told" = true) (k39 : PySem.W.keepIn K (.ref f39) = true)
    (a40 : PySem.W.nsIn K mainGlobals "_law_first_bad" = some (some (.ref f40))) (l40 : K.lookup f40 = some ⟨oc40, od40, .func (PySem.W.fnOf "_law_first_bad" "_law_first_bad" (defArgs s__law_first_bad) (defBody s__law_first_bad) (defScope s__law_first_bad) .none kV40 dc40 pm40 an40 cd40 ct40), sl40⟩) (c40 : PySem.W.codeIn K cd40 "_law_first_bad" = true) (k40 : PySem.W.keepIn K (.ref f40) = true)
    (a41 : PySem.W.nsIn K mainGlobals "law" = some (some (.ref f41))) (l41 : K.lookup f41 = some ⟨oc41, od41, .func (PySem.W.fnOf "law" "law" (defArgs s_law) (defBody s_law) (defScope s_law) .none kV41 dc41 pm41 an41 cd41 ct41), sl41⟩) (c41 : PySem.W.codeIn K cd41 "law" = true) (k41 : PySem.W.keepIn K (.ref f41) = true)
    (z_abs : PySem.W.nsIn K mainGlobals "abs" = some none)
    (z_bool : PySem.W.nsIn K mainGlobals "bool" = some none)
    (z_enumerate : PySem.W.nsIn K mainGlobals "enumerate" = some none)
    (z_int : PySem.W.nsIn K mainGlobals "int" = some none)
    (z_isinstance : PySem.W.nsIn K mainGlobals "isinstance" = some none)
    (z_len : PySem.W.nsIn K mainGlobals "len" = some none)
    (z_list : PySem.W.nsIn K mainGlobals "list" = some none)
    (z_range : PySem.W.nsIn K mainGlobals "range" = some none)
    (z_repr : PySem.W.nsIn K mainGlobals "repr" = some none)
    (z_sum : PySem.W.nsIn K mainGlobals "sum" = some none)
    (z_tuple : PySem.W.nsIn K mainGlobals "tuple" = some none)
    (z_gcd : PySem.W.nsIn K mainGlobals "gcd" = some (some (.builtin "math.gcd")))
    (zVE : PySem.W.nsIn K mainGlobals "ValueError" = some none) (zv : PySem.W.findCls K (.type "ValueError") (.type "type") "__init__" = some (.val (.builtin "ValueError.__init__"))) (zM_ : PySem.W.nsIn K mainGlobals "MixError" = some (some (.ref CM_))) (iM_ : PySem.W.findCls K (.ref CM_) (.type "type") "__init__" = some (.val (.ref fM_))) (lM_ : K.lookup fM_ = some ⟨ocM_, odM_, .func (PySem.W.fnOf "__init__" "MixError.__init__" (defArgs s_i_MixError) (defBody s_i_MixError) (defScope s_i_MixError) .none kVM_ dcM_ pmM_ anM_ cdM_ ctM_), slM_⟩) (cM_ : PySem.W.codeIn K cdM_ "MixError.__init__" = true) (xM_ : baseB K CM_ fM_ = true)
    (z_BadFraction : PySem.W.nsIn K mainGlobals "BadFraction" = some (some (.ref C_BadFraction))) (i_BadFraction : PySem.W.findIn K (.ref C_BadFraction) "__init__" = some (some (.ref f_BadFraction))) (l_BadFraction : K.lookup f_BadFraction = some ⟨oc_BadFraction, od_BadFraction, .func (PySem.W.fnOf "__init__" "BadFraction.__init__" (defArgs s_i_BadFraction) (defBody s_i_BadFraction) (defScope s_i_BadFraction) .none kV_BadFraction dc_BadFraction pm_BadFraction an_BadFraction cd_BadFraction ct_BadFraction), sl_BadFraction⟩) (c_BadFraction : PySem.W.codeIn K cd_BadFraction "BadFraction.__init__" = true) (k_BadFraction : PySem.W.keepIn K (.ref f_BadFraction) = true) (x_BadFraction : errB K C_BadFraction CM_ f_BadFraction "BadFraction" = true)
    (z_BadPair : PySem.W.nsIn K mainGlobals "BadPair" = some (some (.ref C_BadPair))) (i_BadPair : PySem.W.findIn K (.ref C_BadPair) "__init__" = some (some (.ref f_BadPair))) (l_BadPair : K.lookup f_BadPair = some ⟨oc_BadPair, od_BadPair, .func (PySem.W.fnOf "__init__" "BadPair.__init__" (defArgs s_i_BadPair) (defBody s_i_BadPair) (defScope s_i_BadPair) .none kV_BadPair dc_BadPair pm_BadPair an_BadPair cd_BadPair ct_BadPair), sl_BadPair⟩) (c_BadPair : PySem.W.codeIn K cd_BadPair "BadPair.__init__" = true) (k_BadPair : PySem.W.keepIn K (.ref f_BadPair) = true) (x_BadPair : errB K C_BadPair CM_ f_BadPair "BadPair" = true)
    (tA : cd6 = .ref cA) (uA : K.lookup cA = some ⟨ocA, ddA, .fields vsA, slA⟩) (vA : vsA[11]? = some (.ref PA)) (nA : K.lookup PA = none) (hA : CodeK ocA vsA cA PA) :
    ∃ (fd : FuncData) (cs : List (Addr × Addr)), (∀ p ∈ cs, h.get? p.2 = some { cls := .none, data := .fields #[] }) ∧ (∀ p ∈ cs, K.lookup p.2 = none) ∧ (∀ p ∈ cs, PySem.W.CodeHd h p.1 p.2) ∧ (∀ (s : Shared) (u : Value), BindsTo s fd ⟨[u], []⟩ [("_law_script", u)]) ∧
      (∀ (H : Hp) (a : Addr) (ns : List Int), ns.length ≤ 63 → (∀ p ∈ cs, H p.2 = some (.tbl #[])) → SqL K H a (ns.map V.int) → spLaw K PA [.ref a] H (fun v _ => v = .bl true) E0) ∧
      ∀ base : Heap, K.In base → base.Ns mainGlobals mg → (∀ p ∈ cs, GxR.TabB base mg p.1 p.2) → FnG l.prog w K mg base 9 fa fd ["_law_script"] (spLaw K PA) := by
  have e := hfa.symm.trans (PySem.W.mg_of X G a41)
  cases e
  let T : Txt K mg := {
    d_is_whole := ⟨f1, _, fun_mk (st := s_is_whole) l1 c1 k1, (fun_mk (st := s_is_whole) l1 c1 k1).binds (ps := ["value"]) (fun _ _ _ _ _ _ us hl => match us, hl with | [_], _ => rfl), PySem.W.mg_of X G a1⟩,
    d_is_fraction := ⟨f2, _, fun_mk (st := s_is_fraction) l2 c2 k2, (fun_mk (st := s_is_fraction) l2 c2 k2).binds (ps := ["value"]) (fun _ _ _ _ _ _ us hl => match us, hl with | [_], _ => rfl), PySem.W.mg_of X G a2⟩,
    d_require_fraction := ⟨f3, _, fun_mk (st := s_require_fraction) l3 c3 k3, (fun_mk (st := s_require_fraction) l3 c3 k3).binds (ps := ["value"]) (fun _ _ _ _ _ _ us hl => match us, hl with | [_], _ => rfl), PySem.W.mg_of X G a3⟩,
    d_lowest := ⟨f4, _, fun_mk (st := s_lowest) l4 c4 k4, (fun_mk (st := s_lowest) l4 c4 k4).binds (ps := ["top", "bottom"]) (fun _ _ _ _ _ _ us hl => match us, hl with | [_, _], _ => rfl), PySem.W.mg_of X G a4⟩,
    d_multiply := ⟨f5, _, fun_mk (st := s_multiply) l5 c5 k5, (fun_mk (st := s_multiply) l5 c5 k5).binds (ps := ["one", "other"]) (fun _ _ _ _ _ _ us hl => match us, hl with | [_, _], _ => rfl), PySem.W.mg_of X G a5⟩,
    d_add_all := ⟨f6, _, fun_mk (st := s_add_all) l6 c6 k6, (fun_mk (st := s_add_all) l6 c6 k6).binds (ps := ["fractions"]) (fun _ _ _ _ _ _ us hl => match us, hl with | [_], _ => rfl), PySem.W.mg_of X G a6⟩,
    d_is_pair := ⟨f7, _, fun_mk (st := s_is_pair) l7 c7 k7, (fun_mk (st := s_is_pair) l7 c7 k7).binds (ps := ["value"]) (fun _ _ _ _ _ _ us hl => match us, hl with | [_], _ => rfl), PySem.W.mg_of X G a7⟩,
    d_require_pair := ⟨f8, _, fun_mk (st := s_require_pair) l8 c8 k8, (fun_mk (st := s_require_pair) l8 c8 k8).binds (ps := ["value"]) (fun _ _ _ _ _ _ us hl => match us, hl with | [_], _ => rfl), PySem.W.mg_of X G a8⟩,
    d_require_pairs := ⟨f9, _, fun_mk (st := s_require_pairs) l9 c9 k9, (fun_mk (st := s_require_pairs) l9 c9 k9).binds (ps := ["values"]) (fun _ _ _ _ _ _ us hl => match us, hl with | [_], _ => rfl), PySem.W.mg_of X G a9⟩,
    d_arrow := ⟨f10, _, fun_mk (st := s_arrow) l10 c10 k10, (fun_mk (st := s_arrow) l10 c10 k10).binds (ps := ["pair"]) (fun _ _ _ _ _ _ us hl => match us, hl with | [_], _ => rfl), PySem.W.mg_of X G a10⟩,
    d_turn := ⟨f11, _, fun_mk (st := s_turn) l11 c11 k11, (fun_mk (st := s_turn) l11 c11 k11).binds (ps := ["one", "other"]) (fun _ _ _ _ _ _ us hl => match us, hl with | [_, _], _ => rfl), PySem.W.mg_of X G a11⟩,
    d_turn_of_pairs := ⟨f12, _, fun_mk (st := s_turn_of_pairs) l12 c12 k12, (fun_mk (st := s_turn_of_pairs) l12 c12 k12).binds (ps := ["one", "other"]) (fun _ _ _ _ _ _ us hl => match us, hl with | [_, _], _ => rfl), PySem.W.mg_of X G a12⟩,
    d_add_pairs := ⟨f13, _, fun_mk (st := s_add_pairs) l13 c13 k13, (fun_mk (st := s_add_pairs) l13 c13 k13).binds (ps := ["pairs"]) (fun _ _ _ _ _ _ us hl => match us, hl with | [_], _ => rfl), PySem.W.mg_of X G a13⟩,
    d_multiply_pair := ⟨f14, _, fun_mk (st := s_multiply_pair) l14 c14 k14, (fun_mk (st := s_multiply_pair) l14 c14 k14).binds (ps := ["pair", "share"]) (fun _ _ _ _ _ _ us hl => match us, hl with | [_, _], _ => rfl), PySem.W.mg_of X G a14⟩,
    d_is_ahead := ⟨f15, _, fun_mk (st := s_is_ahead) l15 c15 k15, (fun_mk (st := s_is_ahead) l15 c15 k15).binds (ps := ["one", "other"]) (fun _ _ _ _ _ _ us hl => match us, hl with | [_, _], _ => rfl), PySem.W.mg_of X G a15⟩,
    d_are_level := ⟨f16, _, fun_mk (st := s_are_level) l16 c16 k16, (fun_mk (st := s_are_level) l16 c16 k16).binds (ps := ["one", "other"]) (fun _ _ _ _ _ _ us hl => match us, hl with | [_, _], _ => rfl), PySem.W.mg_of X G a16⟩,
    d_total := ⟨f17, _, fun_mk (st := s_total) l17 c17 k17, (fun_mk (st := s_total) l17 c17 k17).binds (ps := ["pairs"]) (fun _ _ _ _ _ _ us hl => match us, hl with | [_], _ => rfl), PySem.W.mg_of X G a17⟩,
    d_spread := ⟨f18, _, fun_mk (st := s_spread) l18 c18 k18, (fun_mk (st := s_spread) l18 c18 k18).binds (ps := ["pair", "share"]) (fun _ _ _ _ _ _ us hl => match us, hl with | [_, _], _ => rfl), PySem.W.mg_of X G a18⟩,
    d__law_spread := ⟨f19, _, fun_mk (st := s__law_spread) l19 c19 k19, (fun_mk (st := s__law_spread) l19 c19 k19).binds (ps := ["_law_cell", "_law_at"]) (fun _ _ _ _ _ _ us hl => match us, hl with | [_, _], _ => rfl), PySem.W.mg_of X G a19⟩,
    d__law_open := ⟨f20, _, fun_mk (st := s__law_open) l20 c20 k20, (fun_mk (st := s__law_open) l20 c20 k20).binds (ps := ["_law_script"]) (fun _ _ _ _ _ _ us hl => match us, hl with | [_], _ => rfl), PySem.W.mg_of X G a20⟩,
    d__law_take := ⟨f21, _, fun_mk (st := s__law_take) l21 c21 k21, (fun_mk (st := s__law_take) l21 c21 k21).binds (ps := ["_law_pen", "_law_many"]) (fun _ _ _ _ _ _ us hl => match us, hl with | [_, _], _ => rfl), PySem.W.mg_of X G a21⟩,
    d__law_anew := ⟨f22, _, fun_mk (st := s__law_anew) l22 c22 k22, (fun_mk (st := s__law_anew) l22 c22 k22).binds (ps := ["_law_pen"]) (fun _ _ _ _ _ _ us hl => match us, hl with | [_], _ => rfl), PySem.W.mg_of X G a22⟩,
    d__law_one := ⟨f23, _, fun_mk (st := s__law_one) l23 c23 k23, (fun_mk (st := s__law_one) l23 c23 k23).binds (ps := ["_law_pen", "_law_some"]) (fun _ _ _ _ _ _ us hl => match us, hl with | [_, _], _ => rfl), PySem.W.mg_of X G a23⟩,
    d__law_is_whole := ⟨f24, _, fun_mk (st := s__law_is_whole) l24 c24 k24, (fun_mk (st := s__law_is_whole) l24 c24 k24).binds (ps := ["_law_value"]) (fun _ _ _ _ _ _ us hl => match us, hl with | [_], _ => rfl), PySem.W.mg_of X G a24⟩,
    d__law_common := ⟨f25, _, fun_mk (st := s__law_common) l25 c25 k25, (fun_mk (st := s__law_common) l25 c25 k25).binds (ps := ["_law_one_here", "_law_other"]) (fun _ _ _ _ _ _ us hl => match us, hl with | [_, _], _ => rfl), PySem.W.mg_of X G a25⟩,
    d__law_low := ⟨f26, _, fun_mk (st := s__law_low) l26 c26 k26, (fun_mk (st := s__law_low) l26 c26 k26).binds (ps := ["_law_top", "_law_bottom"]) (fun _ _ _ _ _ _ us hl => match us, hl with | [_, _], _ => rfl), PySem.W.mg_of X G a26⟩,
    d__law_add := ⟨f27, _, fun_mk (st := s__law_add) l27 c27 k27, (fun_mk (st := s__law_add) l27 c27 k27).binds (ps := ["_law_one_here", "_law_other"]) (fun _ _ _ _ _ _ us hl => match us, hl with | [_, _], _ => rfl), PySem.W.mg_of X G a27⟩,
    d__law_sub := ⟨f28, _, fun_mk (st := s__law_sub) l28 c28 k28, (fun_mk (st := s__law_sub) l28 c28 k28).binds (ps := ["_law_one_here", "_law_other"]) (fun _ _ _ _ _ _ us hl => match us, hl with | [_, _], _ => rfl), PySem.W.mg_of X G a28⟩,
    d__law_mul := ⟨f29, _, fun_mk (st := s__law_mul) l29 c29 k29, (fun_mk (st := s__law_mul) l29 c29 k29).binds (ps := ["_law_one_here", "_law_other"]) (fun _ _ _ _ _ _ us hl => match us, hl with | [_, _], _ => rfl), PySem.W.mg_of X G a29⟩,
    d__law_sign := ⟨f30, _, fun_mk (st := s__law_sign) l30 c30 k30, (fun_mk (st := s__law_sign) l30 c30 k30).binds (ps := ["_law_one_here"]) (fun _ _ _ _ _ _ us hl => match us, hl with | [_], _ => rfl), PySem.W.mg_of X G a30⟩,
    d__law_turn := ⟨f31, _, fun_mk (st := s__law_turn) l31 c31 k31, (fun_mk (st := s__law_turn) l31 c31 k31).binds (ps := ["_law_one_here", "_law_other"]) (fun _ _ _ _ _ _ us hl => match us, hl with | [_, _], _ => rfl), PySem.W.mg_of X G a31⟩,
    d__law_join := ⟨f32, _, fun_mk (st := s__law_join) l32 c32 k32, (fun_mk (st := s__law_join) l32 c32 k32).binds (ps := ["_law_one_here", "_law_other"]) (fun _ _ _ _ _ _ us hl => match us, hl with | [_, _], _ => rfl), PySem.W.mg_of X G a32⟩,
    d__law_times := ⟨f33, _, fun_mk (st := s__law_times) l33 c33 k33, (fun_mk (st := s__law_times) l33 c33 k33).binds (ps := ["_law_pair", "_law_portion"]) (fun _ _ _ _ _ _ us hl => match us, hl with | [_, _], _ => rfl), PySem.W.mg_of X G a33⟩,
    d__law_none := ⟨f34, _, fun_mk (st := s__law_none) l34 c34 k34, (fun_mk (st := s__law_none) l34 c34 k34).binds (ps := []) (fun _ _ _ _ _ _ us hl => match us, hl with | [], _ => rfl), PySem.W.mg_of X G a34⟩,
    d__law_amount := ⟨f35, _, fun_mk (st := s__law_amount) l35 c35 k35, (fun_mk (st := s__law_amount) l35 c35 k35).binds (ps := ["_law_pen"]) (fun _ _ _ _ _ _ us hl => match us, hl with | [_], _ => rfl), PySem.W.mg_of X G a35⟩,
    d__law_any := ⟨f36, _, fun_mk (st := s__law_any) l36 c36 k36, (fun_mk (st := s__law_any) l36 c36 k36).binds (ps := ["_law_pen"]) (fun _ _ _ _ _ _ us hl => match us, hl with | [_], _ => rfl), PySem.W.mg_of X G a36⟩,
    d__law_is := ⟨f37, _, fun_mk (st := s__law_is) l37 c37 k37, (fun_mk (st := s__law_is) l37 c37 k37).binds (ps := ["_law_value"]) (fun _ _ _ _ _ _ us hl => match us, hl with | [_], _ => rfl), PySem.W.mg_of X G a37⟩,
    d__law_call := ⟨f38, _, fun_mk (st := s__law_call) l38 c38 k38, (fun_mk (st := s__law_call) l38 c38 k38).binds (ps := ["_law_word", "_law_one_here", "_law_other"]) (fun _ _ _ _ _ _ us hl => match us, hl with | [_, _, _], _ => rfl), PySem.W.mg_of X G a38⟩,
    d__law_told := ⟨f39, _, fun_mk (st := s__law_told) l39 c39 k39, (fun_mk (st := s__law_told) l39 c39 k39).binds (ps := ["_law_word", "_law_one_here", "_law_other"]) (fun _ _ _ _ _ _ us hl => match us, hl with | [_, _, _], _ => rfl), PySem.W.mg_of X G a39⟩,
    d__law_first_bad := ⟨f40, _, fun_mk (st := s__law_first_bad) l40 c40 k40, (fun_mk (st := s__law_first_bad) l40 c40 k40).binds (ps := ["_law_values"]) (fun _ _ _ _ _ _ us hl => match us, hl with | [_], _ => rfl), PySem.W.mg_of X G a40⟩,
    d_law := ⟨fa, _, fun_mk (st := s_law) l41 c41 k41, (fun_mk (st := s_law) l41 c41 k41).binds (ps := ["_law_script"]) (fun _ _ _ _ _ _ us hl => match us, hl with | [_], _ => rfl), PySem.W.mg_of X G a41⟩,
    n_abs := PySem.W.mg_none_of X G z_abs,
    n_bool := PySem.W.mg_none_of X G z_bool,
    n_enumerate := PySem.W.mg_none_of X G z_enumerate,
    n_int := PySem.W.mg_none_of X G z_int,
    n_isinstance := PySem.W.mg_none_of X G z_isinstance,
    n_len := PySem.W.mg_none_of X G z_len,
    n_list := PySem.W.mg_none_of X G z_list,
    n_range := PySem.W.mg_none_of X G z_range,
    n_repr := PySem.W.mg_none_of X G z_repr,
    n_sum := PySem.W.mg_none_of X G z_sum,
    n_tuple := PySem.W.mg_none_of X G z_tuple,
    n_gcd := PySem.W.mg_of X G z_gcd,
    n_ValueError := PySem.W.mg_none_of X G zVE, v_VE := zv, M := { C := CM_, f := fM_, fd := _, g := PySem.W.mg_of X G zM_, F := fun_mk (st := s_i_MixError) lM_ cM_ (base_ok xM_).2.2, b := (fun_mk (st := s_i_MixError) lM_ cM_ (base_ok xM_).2.2).binds (ps := ["self", "value"]) (fun _ _ _ _ _ _ us hl => match us, hl with | [_, _], _ => rfl), rd := (base_ok xM_).1, ga := (base_ok xM_).2.1, fi := iM_, kp := (base_ok xM_).2.2 },
    E_BadFraction := { C := C_BadFraction, f := f_BadFraction, fd := _, g := PySem.W.mg_of X G z_BadFraction, F := fun_mk (st := s_i_BadFraction) l_BadFraction c_BadFraction k_BadFraction, b := (fun_mk (st := s_i_BadFraction) l_BadFraction c_BadFraction k_BadFraction).binds (ps := ["self", "value"]) (fun _ _ _ _ _ _ us hl => match us, hl with | [_, _], _ => rfl), x := err_ok x_BadFraction },
    E_BadPair := { C := C_BadPair, f := f_BadPair, fd := _, g := PySem.W.mg_of X G z_BadPair, F := fun_mk (st := s_i_BadPair) l_BadPair c_BadPair k_BadPair, b := (fun_mk (st := s_i_BadPair) l_BadPair c_BadPair k_BadPair).binds (ps := ["self", "value"]) (fun _ _ _ _ _ _ us hl => match us, hl with | [_, _], _ => rfl), x := err_ok x_BadPair },
    c_add_all := cA, P_add_all := PA, h_add_all := tA }
  refine ⟨PySem.W.fnOf "law" "law" (defArgs s_law) (defBody s_law) (defScope s_law) .none kV41 dc41 pm41 an41 cd41 ct41, [(cA, PA)], ?_, ?_, ?_, fun s v => .of_eq rfl, ?_, fun base _ _ hb => ok_law T (hb (cA, PA) (by simp))⟩
  · intro p hp
    rw [List.mem_singleton] at hp
    subst hp
    exact hE f6 cA PA _ _ _ _ _ _ (PySem.W.mg_of X G a6) l6 rfl tA uA vA
  · intro p hp
    rw [List.mem_singleton] at hp
    subst hp
    exact nA
  · intro p hp
    rw [List.mem_singleton] at hp
    subst hp
    obtain ⟨file, tf, flags, tg, inF, text, tt, h1, h2, h3, h4, h5, h6, h7⟩ := hA
    exact ⟨_, vsA, file, tf, flags, tg, inF, text, tt, X _ _ uA, h1, rfl, vA, h2, h3, h4, h5, h6, h7⟩
  · intro H a ns hl hT hS
    exact ⟨a, ns, rfl, hS, hl, ⟨#[], hT (cA, PA) (by simp), trivial⟩, fun _ => rfl⟩
end Jf
open PySem PySem.W PyProof.Rows
set_option maxRecDepth 100000 in
set_option maxHeartbeats 0 in
theorem PySem.Challenge.cw_onenumber_k02_pairs_holds : PySem.Challenge.rw_onenumber_k02_pairs.Holds := by
  w_on; o_law; k_head; (case hw => w_witness2)
  k_fill
  refine' Jf.walk_ofGK (l := PySem.Challenge.rw_onenumber_k02_pairs) (n := 63) (k := 9) (x := "_law_script") (y := "add_all") (sp := Jf.spLaw) rfl (by decide) rfl ⟨rfl, by decide, by decide⟩ (by decide) (fun w h Y => PySem.W.kIn_of Y) ?F
  case F =>
    intro w mg fa h KX G hmg hE
    refine' Jf.all_mk KX G hmg hE ?a1 ?l1 ?c1 ?k1 ?a2 ?l2 ?c2 ?k2 ?a3 ?l3 ?c3 ?k3 ?a4 ?l4 ?c4 ?k4 ?a5 ?l5 ?c5 ?k5 ?a6 ?l6 ?c6 ?k6 ?a7 ?l7 ?c7 ?k7 ?a8 ?l8 ?c8 ?k8 ?a9 ?l9 ?c9 ?k9 ?a10 ?l10 ?c10 ?k10 ?a11 ?l11 ?c11 ?k11 ?a12 ?l12 ?c12 ?k12 ?a13 ?l13 ?c13 ?k13 ?a14 ?l14 ?c14 ?k14 ?a15 ?l15 ?c15 ?k15 ?a16 ?l16 ?c16 ?k16 ?a17 ?l17 ?c17 ?k17 ?a18 ?l18 ?c18 ?k18 ?a19 ?l19 ?c19 ?k19 ?a20 ?l20 ?c20 ?k20 ?a21 ?l21 ?c21 ?k21 ?a22 ?l22 ?c22 ?k22 ?a23 ?l23 ?c23 ?k23 ?a24 ?l24 ?c24 ?k24 ?a25 ?l25 ?c25 ?k25 ?a26 ?l26 ?c26 ?k26 ?a27 ?l27 ?c27 ?k27 ?a28 ?l28 ?c28 ?k28 ?a29 ?l29 ?c29 ?k29 ?a30 ?l30 ?c30 ?k30 ?a31 ?l31 ?c31 ?k31 ?a32 ?l32 ?c32 ?k32 ?a33 ?l33 ?c33 ?k33 ?a34 ?l34 ?c34 ?k34 ?a35 ?l35 ?c35 ?k35 ?a36 ?l36 ?c36 ?k36 ?a37 ?l37 ?c37 ?k37 ?a38 ?l38 ?c38 ?k38 ?a39 ?l39 ?c39 ?k39 ?a40 ?l40 ?c40 ?k40 ?a41 ?l41 ?c41 ?k41 ?z_abs ?z_bool ?z_enumerate ?z_int ?z_isinstance ?z_len ?z_list ?z_range ?z_repr ?z_sum ?z_tuple ?z_gcd ?zVE ?zv ?zM_ ?iM_ ?lM_ ?cM_ ?xM_ ?z_BadFraction ?i_BadFraction ?l_BadFraction ?c_BadFraction ?k_BadFraction ?x_BadFraction ?z_BadPair ?i_BadPair ?l_BadPair ?c_BadPair ?k_BadPair ?x_BadPair ?tA ?uA ?vA ?nA ?hA
    (case a1 => k_is)
    (case l1 => k_is)
    (case c1 => k_is)
    (case k1 => k_is)
    (case a2 => k_is)
    (case l2 => k_is)
    (case c2 => k_is)
    (case k2 => k_is)
    (case a3 => k_is)
    (case l3 => k_is)
    (case c3 => k_is)
    (case k3 => k_is)
    (case a4 => k_is)
    (case l4 => k_is)
    (case c4 => k_is)
    (case k4 => k_is)
    (case a5 => k_is)
    (case l5 => k_is)
    (case c5 => k_is)
    (case k5 => k_is)
    (case a6 => k_is)
    (case l6 => k_is)
    (case c6 => k_is)
    (case k6 => k_is)
    (case a7 => k_is)
    (case l7 => k_is)
    (case c7 => k_is)
    (case k7 => k_is)
    (case a8 => k_is)
    (case l8 => k_is)
    (case c8 => k_is)
    (case k8 => k_is)
    (case a9 => k_is)
    (case l9 => k_is)
    (case c9 => k_is)
    (case k9 => k_is)
    (case a10 => k_is)
    (case l10 => k_is)
    (case c10 => k_is)
    (case k10 => k_is)
    (case a11 => k_is)
    (case l11 => k_is)
    (case c11 => k_is)
    (case k11 => k_is)
    (case a12 => k_is)
    (case l12 => k_is)
    (case c12 => k_is)
    (case k12 => k_is)
    (case a13 => k_is)
    (case l13 => k_is)
    (case c13 => k_is)
    (case k13 => k_is)
    (case a14 => k_is)
    (case l14 => k_is)
    (case c14 => k_is)
    (case k14 => k_is)
    (case a15 => k_is)
    (case l15 => k_is)
    (case c15 => k_is)
    (case k15 => k_is)
    (case a16 => k_is)
    (case l16 => k_is)
    (case c16 => k_is)
    (case k16 => k_is)
    (case a17 => k_is)
    (case l17 => k_is)
    (case c17 => k_is)
    (case k17 => k_is)
    (case a18 => k_is)
    (case l18 => k_is)
    (case c18 => k_is)
    (case k18 => k_is)
    (case a19 => k_is)
    (case l19 => k_is)
    (case c19 => k_is)
    (case k19 => k_is)
    (case a20 => k_is)
    (case l20 => k_is)
    (case c20 => k_is)
    (case k20 => k_is)
    (case a21 => k_is)
    (case l21 => k_is)
    (case c21 => k_is)
    (case k21 => k_is)
    (case a22 => k_is)
    (case l22 => k_is)
    (case c22 => k_is)
    (case k22 => k_is)
    (case a23 => k_is)
    (case l23 => k_is)
    (case c23 => k_is)
    (case k23 => k_is)
    (case a24 => k_is)
    (case l24 => k_is)
    (case c24 => k_is)
    (case k24 => k_is)
    (case a25 => k_is)
    (case l25 => k_is)
    (case c25 => k_is)
    (case k25 => k_is)
    (case a26 => k_is)
    (case l26 => k_is)
    (case c26 => k_is)
    (case k26 => k_is)
    (case a27 => k_is)
    (case l27 => k_is)
    (case c27 => k_is)
    (case k27 => k_is)
    (case a28 => k_is)
    (case l28 => k_is)
    (case c28 => k_is)
    (case k28 => k_is)
    (case a29 => k_is)
    (case l29 => k_is)
    (case c29 => k_is)
    (case k29 => k_is)
    (case a30 => k_is)
    (case l30 => k_is)
    (case c30 => k_is)
    (case k30 => k_is)
    (case a31 => k_is)
    (case l31 => k_is)
    (case c31 => k_is)
    (case k31 => k_is)
    (case a32 => k_is)
    (case l32 => k_is)
    (case c32 => k_is)
    (case k32 => k_is)
    (case a33 => k_is)
    (case l33 => k_is)
    (case c33 => k_is)
    (case k33 => k_is)
    (case a34 => k_is)
    (case l34 => k_is)
    (case c34 => k_is)
    (case k34 => k_is)
    (case a35 => k_is)
    (case l35 => k_is)
    (case c35 => k_is)
    (case k35 => k_is)
    (case a36 => k_is)
    (case l36 => k_is)
    (case c36 => k_is)
    (case k36 => k_is)
    (case a37 => k_is)
    (case l37 => k_is)
    (case c37 => k_is)
    (case k37 => k_is)
    (case a38 => k_is)
    (case l38 => k_is)
    (case c38 => k_is)
    (case k38 => k_is)
    (case a39 => k_is)
    (case l39 => k_is)
    (case c39 => k_is)
    (case k39 => k_is)
    (case a40 => k_is)
    (case l40 => k_is)
    (case c40 => k_is)
    (case k40 => k_is)
    (case a41 => k_is)
    (case l41 => k_is)
    (case c41 => k_is)
    (case k41 => k_is)
    (case z_abs => k_is)
    (case z_bool => k_is)
    (case z_enumerate => k_is)
    (case z_int => k_is)
    (case z_isinstance => k_is)
    (case z_len => k_is)
    (case z_list => k_is)
    (case z_range => k_is)
    (case z_repr => k_is)
    (case z_sum => k_is)
    (case z_tuple => k_is)
    (case z_gcd => k_is)
    (case zVE => k_is)
    (case zv => k_is)
    (case zM_ => k_is)
    (case iM_ => k_is)
    (case lM_ => k_is)
    (case cM_ => k_is)
    (case xM_ => kernel_rfl)
    (case z_BadFraction => k_is)
    (case i_BadFraction => k_is)
    (case l_BadFraction => k_is)
    (case c_BadFraction => k_is)
    (case k_BadFraction => k_is)
    (case x_BadFraction => kernel_rfl)
    (case z_BadPair => k_is)
    (case i_BadPair => k_is)
    (case l_BadPair => k_is)
    (case c_BadPair => k_is)
    (case k_BadPair => k_is)
    (case x_BadPair => kernel_rfl)
    (case tA => rfl)
    (case uA => k_is)
    (case vA => rfl)
    (case nA => rfl)
    (case hA => exact ⟨_, _, _, _, _, _, _, rfl, rfl, rfl, rfl, rfl, rfl, by decide⟩)
