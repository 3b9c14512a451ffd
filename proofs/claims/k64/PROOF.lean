import PyProof.Rows.All
import Wide.All
import OpenK.AllK
import Wide.FinOn
import HandS.ForMost
import HandS.Evl
import HandS.Gcd
import HandS.Wide
import HandS.Flow
import HandS.NoneIn
import HandS.IsInst
import HandS.Exc
import HandS.TryOnly
import HandS.ExcOwn
import HandS.WordsExc
import HandS.ExcInit
import HandS.ExcField
import HandS.ExcIs
import HandS.SetFor
import HandS.TupLe
import HandS.TryMany
import HandS.TupMul
import HandS.TupAny
import HandS.Style
import KE.KExcIs
import PyProof.ReprRoads
import HandS.AnyAll
import PyProof.WalksPairs
import PyProof.GenCompT
import PyProof.SumAny
import HandS.GenList
import KE.KTypeName
import PyProof.ListCopy
import KE.KRevSl
import HandS.Walk
import HandS.Rev
import HandS.RevRange
import HandS.Conv
import HandS.WideBits
import HandS.Small
import HandS.Deep
import KE.BitLaws
import PyProof.EnumMake
import PyProof.TupleIter
import KE.GoesEnumKw
import HandS.SortKw
import PySem.Challenge.RW_onenumber_k64_groups_of_tests
set_option Elab.async false
set_option linter.all false
/-! fractions as core rationals -/
namespace Jf
theorem gcd_pos {n d : Int} (hd : d ≠ 0) : 0 < Nat.gcd n.natAbs d.natAbs := Nat.gcd_pos_of_pos_right _ (by omega)
theorem low_split (n d : Int) (hd : d ≠ 0) : ∃ (g : Nat) (k m : Int), g = Nat.gcd n.natAbs d.natAbs ∧ 0 < g ∧ n = (g : Int) * k ∧ d = (g : Int) * m ∧ (Rat.divInt n d).num = d.sign * k ∧ ((Rat.divInt n d).den : Int) = d.sign * m := by
  have h1 : ((Nat.gcd n.natAbs d.natAbs : Nat) : Int) ∣ n := Int.ofNat_dvd_left.mpr (Nat.gcd_dvd_left _ _)
  have h2 : ((Nat.gcd n.natAbs d.natAbs : Nat) : Int) ∣ d := Int.ofNat_dvd_left.mpr (Nat.gcd_dvd_right _ _)
  obtain ⟨k, hk⟩ := h1
  obtain ⟨m, hm⟩ := h2
  have hp := gcd_pos (n := n) hd
  refine ⟨_, k, m, rfl, hp, hk, hm, ?_, ?_⟩
  · have hg : (d.gcd n : Nat) = Nat.gcd n.natAbs d.natAbs := by rw [Int.gcd_comm]; rfl
    rw [Rat.num_divInt, hg]
    generalize hG : Nat.gcd n.natAbs d.natAbs = G at *
    have hG0 : (G : Int) ≠ 0 := by omega
    rw [hk, ← Int.mul_assoc, Int.mul_comm d.sign (G : Int), Int.mul_assoc, Int.mul_ediv_cancel_left _ hG0]
  · have hg : (d.gcd n : Nat) = Nat.gcd n.natAbs d.natAbs := by rw [Int.gcd_comm]; rfl
    rw [Rat.den_divInt, if_neg hd, hg]
    generalize hG : Nat.gcd n.natAbs d.natAbs = G at *
    have hG0 : (G : Int) ≠ 0 := by omega
    have e : d.natAbs = G * m.natAbs := by rw [hm, Int.natAbs_mul]; rfl
    rw [e, Nat.mul_div_cancel_left _ hp]
    have hs : d.sign = m.sign := by rw [hm, Int.sign_mul, Int.sign_natCast_of_ne_zero (by omega), Int.one_mul]
    rw [hs, Int.sign_mul_self]
/-- the program's lowest -/
theorem lowest_eq (n d : Int) (hd : d ≠ 0) :
    n.fdiv (if d < 0 then -((Nat.gcd n.natAbs d.natAbs : Nat) : Int) else ((Nat.gcd n.natAbs d.natAbs : Nat) : Int)) = (Rat.divInt n d).num ∧
    d.fdiv (if d < 0 then -((Nat.gcd n.natAbs d.natAbs : Nat) : Int) else ((Nat.gcd n.natAbs d.natAbs : Nat) : Int)) = ((Rat.divInt n d).den : Int) := by
  obtain ⟨g, k, m, hg, hp, hn, hm, e1, e2⟩ := low_split n d hd
  rw [← hg, e1, e2]
  have hg0 : (g : Int) ≠ 0 := by omega
  by_cases h : d < 0
  · rw [if_pos h, Int.sign_eq_neg_one_of_neg h]
    have hn' : n = (-(g : Int)) * (-k) := by rw [hn]; grind
    have hm' : d = (-(g : Int)) * (-m) := by rw [hm]; grind
    have hg1 : (-(g : Int)) ≠ 0 := by omega
    constructor
    · rw [hn', Int.mul_fdiv_cancel_left _ hg1]; omega
    · rw [hm', Int.mul_fdiv_cancel_left _ hg1]; omega
  · rw [if_neg h, Int.sign_eq_one_of_pos (by omega)]
    constructor
    · rw [hn, Int.mul_fdiv_cancel_left _ hg0]; omega
    · rw [hm, Int.mul_fdiv_cancel_left _ hg0]; omega
/-- the law's low -/
theorem low_eq (n d : Int) (hd : d ≠ 0) (s : Int) (hs : s = if d < 0 then -1 else 1) :
    (s * n) / ((Nat.gcd n.natAbs d.natAbs : Nat) : Int) = (Rat.divInt n d).num ∧ (s * d) / ((Nat.gcd n.natAbs d.natAbs : Nat) : Int) = ((Rat.divInt n d).den : Int) := by
  obtain ⟨g, k, m, hg, hp, hn, hm, e1, e2⟩ := low_split n d hd
  rw [← hg, e1, e2]
  have hg0 : (g : Int) ≠ 0 := by omega
  have hs' : s = d.sign := by
    by_cases h : d < 0
    · rw [hs, if_pos h, Int.sign_eq_neg_one_of_neg h]
    · rw [hs, if_neg h, Int.sign_eq_one_of_pos (by omega)]
  rw [hs']
  constructor
  · rw [show d.sign * n = (g : Int) * (d.sign * k) by rw [hn]; grind, Int.mul_ediv_cancel_left _ hg0]
  · rw [show d.sign * d = (g : Int) * (d.sign * m) by
      generalize d.sign = z
      rw [hm]; grind, Int.mul_ediv_cancel_left _ hg0]
theorem num_le (n d : Int) (hd : d ≠ 0) : (Rat.divInt n d).num.natAbs ≤ n.natAbs := by
  obtain ⟨g, k, m, hg, hp, hn, hm, e1, e2⟩ := low_split n d hd
  have hs : d.sign.natAbs = 1 := by rw [Int.natAbs_sign, if_neg hd]
  rw [e1, Int.natAbs_mul, hs, hn, Int.natAbs_mul, Nat.one_mul]
  exact Nat.le_mul_of_pos_left _ (by omega)
theorem den_le (n d : Int) (hd : d ≠ 0) : (Rat.divInt n d).den ≤ d.natAbs := by
  obtain ⟨g, k, m, hg, hp, hn, hm, e1, e2⟩ := low_split n d hd
  have hs : d.sign.natAbs = 1 := by rw [Int.natAbs_sign, if_neg hd]
  have e3 : (Rat.divInt n d).den = m.natAbs := by
    have := congrArg Int.natAbs e2
    rw [Int.natAbs_mul, hs, Nat.one_mul] at this
    simpa using this
  rw [e3]
  have : d.natAbs = g * m.natAbs := by rw [hm, Int.natAbs_mul]; rfl
  rw [this]
  exact Nat.le_mul_of_pos_left _ (by omega)
theorem den_pos (q : Rat) : (0 : Int) < (q.den : Int) := by have := q.den_pos; omega
theorem den_ne (q : Rat) : (q.den : Int) ≠ 0 := by have := q.den_pos; omega
theorem add_eq (q r : Rat) : Rat.divInt (q.num * r.den + r.num * q.den) (q.den * r.den) = q + r := by
  rw [← Rat.divInt_add_divInt _ _ (den_ne q) (den_ne r), Rat.num_divInt_den, Rat.num_divInt_den]
theorem sub_eq (q r : Rat) : Rat.divInt (q.num * r.den - r.num * q.den) (q.den * r.den) = q - r := by
  rw [← Rat.divInt_sub_divInt _ _ (den_ne q) (den_ne r), Rat.num_divInt_den, Rat.num_divInt_den]
theorem mul_eq (q r : Rat) : Rat.divInt (q.num * r.num) (q.den * r.den) = q * r := by
  rw [← Rat.divInt_mul_divInt, Rat.num_divInt_den, Rat.num_divInt_den]
theorem div_eq (q r : Rat) : Rat.divInt (q.num * r.den) (q.den * r.num) = q / r := by
  rw [Rat.div_def, Rat.inv_def, ← Rat.divInt_mul_divInt, Rat.num_divInt_den]
theorem num_ne {r : Rat} (h : r ≠ 0) : r.num ≠ 0 := fun e => h (Rat.num_eq_zero.mp e)
theorem red (q : Rat) : Nat.gcd q.num.natAbs (q.den : Int).natAbs = 1 := by
  have := q.reduced
  simpa [Nat.Coprime] using this
/-- compare -/
def cmp (q r : Rat) : Int := if q = r then 0 else if r < q then 1 else -1
theorem cmp_eq (q r : Rat) : (if (q - r).num = 0 then (0 : Int) else if 0 < (q - r).num then 1 else -1) = cmp q r := by
  unfold cmp
  have e : (q - r).num = 0 ↔ q = r := by
    rw [Rat.num_eq_zero]
    constructor <;> intro h <;> grind
  by_cases h : q = r
  · rw [if_pos (e.mpr h), if_pos h]
  · rw [if_neg (fun z => h (e.mp z)), if_neg h]
    have e2 : 0 < (q - r).num ↔ r < q := by
      have h1 : (0 : Int) ≤ (q - r).num ↔ 0 ≤ q - r := Rat.num_nonneg
      have h2 : (q - r).num ≠ 0 := fun z => h (e.mp z)
      constructor
      · intro z
        have := h1.mp (by omega)
        grind
      · intro z
        have : 0 ≤ q - r := by grind
        have := h1.mpr this
        omega
    by_cases z : r < q
    · rw [if_pos z, if_pos (e2.mpr z)]
    · rw [if_neg z, if_neg (fun y => z (e2.mp y))]
/-! bounds by powers of two -/
theorem lt_pow_mul {a b m n : Nat} (ha : a < 2 ^ m) (hb : b < 2 ^ n) : a * b < 2 ^ (m + n) := by
  rw [Nat.pow_add]
  exact Nat.mul_lt_mul'' ha hb
theorem lt_pow_add {a b n : Nat} (ha : a < 2 ^ n) (hb : b < 2 ^ n) : a + b < 2 ^ (n + 1) := by
  rw [Nat.pow_succ]; omega
theorem lt_pow_mono {a m n : Nat} (h : m ≤ n) (ha : a < 2 ^ m) : a < 2 ^ n := Nat.lt_of_lt_of_le ha (Nat.pow_le_pow_right (by decide) h)
theorem abs_add_le (a b : Int) : (a + b).natAbs ≤ a.natAbs + b.natAbs := by omega
theorem abs_sub_le (a b : Int) : (a - b).natAbs ≤ a.natAbs + b.natAbs := by omega
/-- a fraction within b bits -/
def Bd (b : Nat) (q : Rat) : Prop := q.num.natAbs < 2 ^ b ∧ q.den < 2 ^ b
theorem Bd.mono {b c : Nat} {q : Rat} (h : b ≤ c) (x : Bd b q) : Bd c q := ⟨lt_pow_mono h x.1, lt_pow_mono h x.2⟩
theorem bd_divInt {n d : Int} {b : Nat} (hd : d ≠ 0) (hn : n.natAbs < 2 ^ b) (hb : d.natAbs < 2 ^ b) : Bd b (Rat.divInt n d) :=
  ⟨Nat.lt_of_le_of_lt (num_le n d hd) hn, Nat.lt_of_le_of_lt (den_le n d hd) hb⟩
theorem bn_mul {i j : Int} {a b : Nat} (ha : i.natAbs < 2 ^ a) (hb : j.natAbs < 2 ^ b) : (i * j).natAbs < 2 ^ (a + b) := by
  rw [Int.natAbs_mul]
  exact lt_pow_mul ha hb
theorem bn_add {i j : Int} {a : Nat} (ha : i.natAbs < 2 ^ a) (hb : j.natAbs < 2 ^ a) : (i + j).natAbs < 2 ^ (a + 1) :=
  Nat.lt_of_le_of_lt (abs_add_le i j) (lt_pow_add ha hb)
theorem bn_sub {i j : Int} {a : Nat} (ha : i.natAbs < 2 ^ a) (hb : j.natAbs < 2 ^ a) : (i - j).natAbs < 2 ^ (a + 1) :=
  Nat.lt_of_le_of_lt (abs_sub_le i j) (lt_pow_add ha hb)
theorem bd_den {q : Rat} {b : Nat} (x : Bd b q) : (q.den : Int).natAbs < 2 ^ b := by
  have := x.2
  simpa using this
/-! Euclid's steps end -/
def euc : Nat → Nat → Nat → Nat × Nat
  | 0, a, b => (a, b)
  | n + 1, a, b => euc n b (a % b)
theorem mod_half {a b : Nat} (hb : 0 < b) (h : b ≤ a) : 2 * (a % b) < a := by
  have h1 : a % b < b := Nat.mod_lt _ hb
  have h2 := Nat.div_add_mod a b
  have h3 : 1 ≤ a / b := Nat.div_pos h hb
  have h4 : b * 1 ≤ b * (a / b) := Nat.mul_le_mul_left b h3
  omega
/-- one step halves the product once b is at most a -/
theorem step_half {a b n : Nat} (hb : 0 < b) (h : b ≤ a) (hp : a * b < 2 ^ (n + 1)) : b * (a % b) < 2 ^ n := by
  have h1 := mod_half hb h
  have h2 : b * (2 * (a % b)) ≤ b * a := Nat.mul_le_mul_left b (Nat.le_of_lt h1)
  rw [Nat.pow_succ] at hp
  have h3 : b * (2 * (a % b)) = 2 * (b * (a % b)) := Nat.mul_left_comm _ _ _
  have h4 : b * a = a * b := Nat.mul_comm _ _
  omega
/-- where one is with n steps left: small enough to end -/
def EucEnds (n a b : Nat) : Prop := b = 0 ∨ (b ≤ a ∧ 1 ≤ n ∧ a * b < 2 ^ (n - 1)) ∨ (2 ≤ n ∧ a * b < 2 ^ (n - 2))
theorem EucEnds.step {n a b : Nat} (hb : b ≠ 0) (h : EucEnds (n + 1) a b) : EucEnds n b (a % b) := by
  have hb0 : 0 < b := Nat.pos_of_ne_zero hb
  have hlt : a % b < b := Nat.mod_lt _ hb0
  rcases h with h | ⟨h1, h2, h3⟩ | ⟨h2, h3⟩
  · exact absurd h hb
  · cases n with
    | zero =>
      have : a * b < 1 := h3
      have h5 : 0 < a * b := Nat.mul_pos (Nat.lt_of_lt_of_le hb0 h1) hb0
      omega
    | succ n =>
      refine .inr (.inl ⟨Nat.le_of_lt hlt, by omega, ?_⟩)
      exact step_half hb0 h1 h3
  · have h6 : b * (a % b) ≤ a * b := by
      rw [Nat.mul_comm]
      exact Nat.mul_le_mul_right b (Nat.mod_le a b)
    refine .inr (.inl ⟨Nat.le_of_lt hlt, by omega, ?_⟩)
    exact Nat.lt_of_le_of_lt h6 (by simpa using h3)
theorem EucEnds.zero {a b : Nat} (h : EucEnds 0 a b) : b = 0 := by
  rcases h with h | ⟨_, h, _⟩ | ⟨h, _⟩ <;> omega
theorem gcd_step {a b g : Nat} (h : Nat.gcd a b = g) : Nat.gcd b (a % b) = g := by
  rw [← h, Nat.gcd_comm a b, Nat.gcd_rec b a, Nat.gcd_comm]
theorem gcd_end {a g : Nat} (h : Nat.gcd a 0 = g) : a = g := by rw [← h, Nat.gcd_zero_right]
end Jf
set_option Elab.async false
set_option linter.all false
namespace Jf
theorem cmp_64 (q r : Rat) : (cmp q r).natAbs < 2 ^ 64 := by
  have : (cmp q r).natAbs ≤ 1 := by unfold cmp; split <;> (try split) <;> decide
  exact Nat.lt_of_le_of_lt this (by decide)
theorem cmp_anti (q r : Rat) : cmp q r = 0 - cmp r q := by unfold cmp; grind
theorem cmp_add (q r s : Rat) : cmp (q + s) (r + s) = cmp q r := by unfold cmp; grind
theorem cmp_sub (q r : Rat) : cmp (q - r) 0 = cmp q r := by unfold cmp; grind
theorem cmp_zero (q r : Rat) : cmp q r = 0 ↔ q = r := by unfold cmp; grind
theorem cmp_trans {q r s : Rat} (h1 : 0 ≤ cmp q r) (h2 : 0 ≤ cmp r s) : ¬ cmp q s < 0 := by unfold cmp at *; grind
theorem cmp_mul (q r s : Rat) : cmp (q * s) (r * s) = cmp q r * cmp s 0 := by
  unfold cmp
  by_cases h : q = r
  · subst h; simp
  · by_cases h0 : s = 0
    · subst h0; simp
    · have e1 : (q - r) * s ≠ 0 := by
        intro e
        rcases Rat.mul_eq_zero.mp e with e | e <;> grind
      have ne : ¬ q * s = r * s := by grind
      rw [if_neg ne, if_neg h, if_neg h0]
      by_cases hs : 0 < s
      · by_cases hq : r < q
        · have := Rat.mul_pos (show 0 < q - r by grind) hs
          grind
        · have := Rat.mul_pos (show 0 < r - q by grind) hs
          grind
      · by_cases hq : r < q
        · have := Rat.mul_pos (show 0 < q - r by grind) (show 0 < -s by grind)
          grind
        · have := Rat.mul_pos (show 0 < r - q by grind) (show 0 < -s by grind)
          grind
theorem six (q : Rat) : Rat.divInt (q.num * 6) (q.den * 6) = q := by
  rw [← Rat.divInt_mul_divInt, Rat.num_divInt_den, Rat.divInt_self' (by decide), Rat.mul_one]
theorem negs (q : Rat) : Rat.divInt (0 - q.num) (0 - q.den) = q := by
  rw [show 0 - q.num = q.num * (-1) by omega, show (0 : Int) - q.den = q.den * (-1) by omega, ← Rat.divInt_mul_divInt, Rat.num_divInt_den, Rat.divInt_self' (by decide), Rat.mul_one]
theorem r_assoc (a b c : Rat) : a + b + c = a + (b + c) := by grind
theorem r_massoc (a b c : Rat) : a * b * c = a * (b * c) := by grind
theorem r_dist (a b c : Rat) : a * (b + c) = a * b + a * c := by grind
theorem r_addsub (a b : Rat) : a + b - b = a := by grind
theorem r_subadd (a b : Rat) : a - b + b = a := by grind
theorem r_divmul (a b : Rat) (h : b ≠ 0) : a / b * b = a := by grind
theorem r_muldiv (a b : Rat) (h : b ≠ 0) : a * b / b = a := by grind
end Jf
set_option Elab.async false
set_option linter.all false
set_option maxRecDepth 100000
set_option maxHeartbeats 4000000
namespace Jf
open PySem PySem.Spec PyProof.Rows L2 Evl
/-- a def of the text behind the top -/
structure FT (K : PySem.W.Frag) (mg : Str → Option Value) (x : Str) (st : Stmt) (ps : List Str) where
  a : Addr
  fd : FuncData
  F : Fun K x x st a fd
  b : Binds K fd ps []
  g : mg x = some (.ref a)
/-- // by a divisor that is not 0, below 2 ^ 9000 in size -/
def CDivZ (_ j : Int) : Prop := j ≠ 0 ∧ j.natAbs.log2 < 9000
theorem op_fdivZ {X : Cx} : OpR X (binaryOp .FloorDiv) (rI CDivZ fun i j => .int (i.fdiv j)) := opI fun i j _ _ _ _ _ hc q =>
  floordiv_int hc.1 q (.inl (PyProof.noPylong_of_log2 hc.2))
theorem log_lt {j : Nat} {b c : Nat} (h : j < 2 ^ b) (hc : b ≤ c) (h0 : 0 < c) : j.log2 < c :=
  Nat.lt_of_lt_of_le (PySem.Flt.log2_lt_of h0 (lt_pow_mono hc h)) (Nat.le_refl _)
theorem mulW {i j : Int} {a b : Nat} (ha : i.natAbs < 2 ^ a) (hb : j.natAbs < 2 ^ b) (h : a + b ≤ 900000) : CMulW i j :=
  wide_mul (lt_pow_mono (Nat.le_succ a) ha) (lt_pow_mono (Nat.le_succ b) hb) (Nat.succ_pos _) (Nat.succ_pos _) (by omega)

/-! ### what evaluates to a value of a kind -/
def EvP (te : TE) (σ : L2.St) (H : Hp) (P : V → Hp → Prop) : Prop := ∀ H1, Ex H H1 → ∀ Q : VK, (∀ v H2, Ex H1 H2 → P v H2 → Q v H2) → te σ H1 Q
/-- a fraction of at most b bits stands at v -/
def Fr (K : PySem.W.Frag) (b : Nat) (q : Rat) (v : V) (H : Hp) : Prop := ∃ p, v = .ref p ∧ SqT K H p [.int q.num, .int (q.den : Int)] ∧ Bd b q
section
variable {K : PySem.W.Frag} {σ : L2.St} {H H' : Hp} {te ta tb : TE} {P : V → Hp → Prop} {v : V} {b c n : Nat} {q r : Rat}
theorem Fr.ex (e : Ex H H') (h : Fr K b q v H) : Fr K b q v H' := by
  obtain ⟨p, rfl, h, x⟩ := h
  exact ⟨p, rfl, ex_t e h, x⟩
theorem Fr.mono (e : b ≤ c) (h : Fr K b q v H) : Fr K c q v H := by
  obtain ⟨p, rfl, h, x⟩ := h
  exact ⟨p, rfl, h, x.mono e⟩
theorem Fr.bd (h : Fr K b q v H) : Bd b q := h.choose_spec.2.2
theorem EvP.mono (e : Ex H H') (h : EvP te σ H P) : EvP te σ H' P := fun H1 a Q q => h H1 (e.trans a) Q q
theorem ep_var {i : Nat} (h : σ[i]? = some (some v)) (hf : Fr K b q v H) : EvP (tVar i) σ H (Fr K b q) := fun H1 e _ k => ⟨v, h, k v H1 (Ex.refl H1) (hf.ex e)⟩
theorem ep_mono (h : EvP te σ H (Fr K b q)) (e : b ≤ c) : EvP te σ H (Fr K c q) := fun H1 a Q k => h H1 a Q fun v H2 e2 f => k v H2 e2 (f.mono e)
theorem ep_is (h : EvP te σ H (Fr K b q)) (e : q = r) : EvP te σ H (Fr K b r) := e ▸ h
theorem ev_0 (h : EvP te σ H (Fr K b q)) : Ev (tOp (rIxT K) te (tC (.int 0))) σ H (.int q.num) := fun H1 a Q k => h H1 a _ fun v H2 e2 f => by
  obtain ⟨p, rfl, f, _⟩ := f
  exact ⟨p, _, 0, .int q.num, rfl, rfl, f, rfl, k H2 e2⟩
theorem ev_1 (h : EvP te σ H (Fr K b q)) : Ev (tOp (rIxT K) te (tC (.int 1))) σ H (.int (q.den : Int)) := fun H1 a Q k => h H1 a _ fun v H2 e2 f => by
  obtain ⟨p, rfl, f, _⟩ := f
  exact ⟨p, _, 1, .int (q.den : Int), rfl, rfl, f, rfl, k H2 e2⟩
/-- a new pair of ints that are a fraction's -/
theorem ep_tup {x y : Int} (ha : Ev ta σ H (.int x)) (hb : Ev tb σ H (.int y)) (e1 : x = q.num) (e2 : y = (q.den : Int)) (bd : Bd b q) : EvP (tTup (tCons ta (tCons tb tNil))) σ H (Fr K b q) := fun H1 a Q k =>
  ha H1 a _ fun H2 a2 => hb H2 (a.trans a2) _ fun H3 a3 => ⟨by show 2 ≤ sizeLine; decide, fun p hp => k _ _ ((a2.trans a3).trans (Ex.new hp)) ⟨p, rfl, by subst e1 e2; exact SqT.of upd_same, bd⟩⟩
theorem ev_mulW {x y : Int} (ha : Ev ta σ H (.int x)) (hb : Ev tb σ H (.int y)) (h : CMulW x y) : Ev (tOp (rI CMulW fun i j => .int (i * j)) ta tb) σ H (.int (x * y)) := ev_op ha hb (rv_I h)
theorem ev_add {x y : Int} (ha : Ev ta σ H (.int x)) (hb : Ev tb σ H (.int y)) : Ev (tOp (rI0 fun i j => .int (i + j)) ta tb) σ H (.int (x + y)) := ev_op ha hb rv_I0
theorem ev_sub {x y : Int} (ha : Ev ta σ H (.int x)) (hb : Ev tb σ H (.int y)) : Ev (tOp (rI0 fun i j => .int (i - j)) ta tb) σ H (.int (x - y)) := ev_op ha hb rv_I0
theorem ev_fdivZ {x y : Int} (ha : Ev ta σ H (.int x)) (hb : Ev tb σ H (.int y)) (h : CDivZ x y) : Ev (tOp (rI CDivZ fun i j => .int (i.fdiv j)) ta tb) σ H (.int (x.fdiv y)) := ev_op ha hb (rv_I h)
theorem ev_neg {x : Int} (ha : Ev ta σ H (.int x)) : Ev (tUn (rU fun i => .int (-i)) ta) σ H (.int (-x)) := ev_un ha ru_neg
theorem s_retP {D : Ends} (h : EvP te σ H P) (k : ∀ v H1, Ex H H1 → P v H1 → D.rt v H1) : tRet te D σ H := h H (Ex.refl H) _ k
theorem s_asgP {D : Ends} {i : Nat} (h : EvP te σ H P) (k : ∀ v H1, Ex H H1 → P v H1 → D.nx (σ.set i (some v)) H1) : tAsg te (gName i) D σ H := h H (Ex.refl H) _ k
theorem s_dropP {D : Ends} (h : EvP te σ H P) (k : ∀ v H1, Ex H H1 → P v H1 → D.nx σ H1) : tDrop te D σ H := h H (Ex.refl H) _ k

/-! ### deep equality of two fractions -/
theorem Fr.dp (h : Fr K b q v H) : Dp K H v (.tuple [.int q.num, .int (q.den : Int)]) := by
  obtain ⟨p, rfl, h, _⟩ := h
  exact .tup h (.cons (.int _) (.cons (.int _) .nil))
theorem eqv_fr (q r : Rat) : PyData.eqv (.tuple [.int q.num, .int (q.den : Int)]) (.tuple [.int r.num, .int (r.den : Int)]) = decide (q = r) := by
  simp only [PyData.eqv, PyData.eqvAll, Bool.and_true]
  have e : q = r ↔ q.num = r.num ∧ (q.den : Int) = (r.den : Int) := by
    constructor
    · rintro rfl
      exact ⟨rfl, rfl⟩
    · rintro ⟨h1, h2⟩
      exact Rat.ext h1 (by omega)
  rw [Bool.eq_iff_iff]
  simp [e]
theorem ev_neD (ha : EvP ta σ H (Fr K b q)) (hb : EvP tb σ H (Fr K c r)) : Ev (tOp (rNeD K) ta tb) σ H (.bl (!decide (q = r))) := fun H1 a Q k =>
  ha H1 a _ fun x H2 a2 f => hb H2 (a.trans a2) _ fun y H3 a3 g => ⟨_, _, (f.ex a3).dp, g.dp, rfl, rfl, by
    rw [eqv_fr]
    exact k H3 (a2.trans a3)⟩
theorem ev_eqD (ha : EvP ta σ H (Fr K b q)) (hb : EvP tb σ H (Fr K c r)) : Ev (tOp (rEqD K) ta tb) σ H (.bl (decide (q = r))) := fun H1 a Q k =>
  ha H1 a _ fun x H2 a2 f => hb H2 (a.trans a2) _ fun y H3 a3 g => ⟨_, _, (f.ex a3).dp, g.dp, rfl, rfl, by
    rw [eqv_fr]
    exact k H3 (a2.trans a3)⟩

/-! ### a def of two fractions -/
/-- op q r, of b + c + 1 bits at most -/
def sp2 (K : PySem.W.Frag) (ok : Rat → Prop) (f : Rat → Rat → Rat) : Sp := fun vs H Q _ => ∃ (u v : V) (b c : Nat) (q r : Rat), vs = [u, v] ∧ Fr K b q u H ∧ Fr K c r v H ∧ b + c + 1 ≤ 8000 ∧ ok r ∧
  ∀ z H', Ex H H' → Fr K (b + c + 1) (f q r) z H' → Q z H'
theorem ep_2 {ok : Rat → Prop} {f : Rat → Rat → Rat} {E : XK} (ha : EvP ta σ H (Fr K b q)) (hb : EvP tb σ H (Fr K c r)) (hk : ok r) (hl : b + c + 1 ≤ 8000) (hn : b + c + 1 = n) : EvP (tCall (sp2 K ok f) [] E (tCons ta (tCons tb tNil))) σ H (Fr K n (f q r)) := fun H1 a Q k =>
  ha H1 a _ fun x H2 a2 g => hb H2 (a.trans a2) _ fun y H3 a3 h => ⟨x, y, b, c, q, r, rfl, g.ex a3, h, hl, hk, fun z H' e w => k z H' ((a2.trans a3).trans e) (by subst hn; exact w)⟩
/-- compare -/
def spC (K : PySem.W.Frag) : Sp := fun vs H Q _ => ∃ (u v : V) (b c : Nat) (q r : Rat), vs = [u, v] ∧ Fr K b q u H ∧ Fr K c r v H ∧ b + c + 1 ≤ 8000 ∧ ∀ H', Ex H H' → Q (.int (cmp q r)) H'
theorem ev_C {E : XK} (ha : EvP ta σ H (Fr K b q)) (hb : EvP tb σ H (Fr K c r)) (hl : b + c + 1 ≤ 8000) : Ev (tCall (spC K) [] E (tCons ta (tCons tb tNil))) σ H (.int (cmp q r)) := fun H1 a Q k =>
  ha H1 a _ fun x H2 a2 g => hb H2 (a.trans a2) _ fun y H3 a3 h => ⟨x, y, b, c, q, r, rfl, g.ex a3, h, hl, fun H' e => k H' ((a2.trans a3).trans e)⟩
/-- is_fraction of a fraction; require_fraction of one -/
def spIs (K : PySem.W.Frag) (x : V) : Sp := fun vs H Q _ => ∃ (u : V) (b : Nat) (q : Rat), vs = [u] ∧ Fr K b q u H ∧ ∀ H', Ex H H' → Q x H'
theorem ev_Is {E : XK} {x : V} (ha : EvP ta σ H (Fr K b q)) : Ev (tCall (spIs K x) [] E (tCons ta tNil)) σ H x := fun H1 a Q k =>
  ha H1 a _ fun u H2 a2 g => ⟨u, b, q, rfl, g, fun H' e => k H' (a2.trans e)⟩
/-- lowest, fraction of two ints -/
def spLow (K : PySem.W.Frag) : Sp := fun vs H Q _ => ∃ (n d : Int) (b : Nat), vs = [.int n, .int d] ∧ d ≠ 0 ∧ n.natAbs < 2 ^ b ∧ d.natAbs < 2 ^ b ∧ b ≤ 8000 ∧ ∀ z H', Ex H H' → Fr K b (Rat.divInt n d) z H' → Q z H'
theorem ep_Low {E : XK} {x y : Int} (ha : Ev ta σ H (.int x)) (hb : Ev tb σ H (.int y)) (hd : y ≠ 0) (hx : x.natAbs < 2 ^ b) (hy : y.natAbs < 2 ^ b) (hl : b ≤ 8000) (hq : Rat.divInt x y = q) : EvP (tCall (spLow K) [] E (tCons ta (tCons tb tNil))) σ H (Fr K b q) := fun H1 a Q k =>
  ha H1 a _ fun H2 a2 => hb H2 (a.trans a2) _ fun H3 a3 => ⟨x, y, b, rfl, hd, hx, hy, hl, fun z H' e w => k z H' ((a2.trans a3).trans e) (by subst hq; exact w)⟩
/-- of any int whether it is one; require_whole -/
def spWhole (x : V) : Sp := fun vs H Q _ => ∃ n : Int, vs = [.int n] ∧ ∀ H', Ex H H' → Q x H'
theorem ev_Whole {E : XK} {x : V} {n : Int} (ha : Ev ta σ H (.int n)) : Ev (tCall (spWhole x) [] E (tCons ta tNil)) σ H x := fun H1 a Q k =>
  ha H1 a _ fun H2 a2 => ⟨n, rfl, fun H' e => k H' (a2.trans e)⟩
end
end Jf
set_option Elab.async false
set_option linter.all false
set_option maxRecDepth 100000
set_option maxHeartbeats 4000000
namespace Jf
open PySem PySem.Spec PyProof.Rows L2 Evl
/-! ### defs that show data: no list or tuple is being shown when they are called -/
structure FnG (P : Program) (w : World) (K : PySem.W.Frag) (mg : Str → Option Value) (base : Heap) (k : Nat) (f : Addr) (fd : FuncData) (ps : List Str) (sp : Sp) : Prop where
  size : ∀ vs H Q E, sp vs H Q E → vs.length = ps.length
  go : ∀ (A : Around) (outer : List Env) (s : Shared) (H : Hp) (args : Args) (us : List Value) (vs : List V) (Q : VK), A.guards = some [] → Room k A →
    Env0 P w K mg base A outer s H → BindsTo s fd args (ps.zip us) → Vals vs us → sp vs H Q E0 → codeAny (model P w) A (.call (.ref f) args) (CR CX0 outer P w H s Q E0) s
section
variable {X : Cx} {k : Nat} {f : Addr} {fd : FuncData} {ps : List Str} {sp : Sp} {x : Str} {p pos : Pos} {e : Expr} {es : List Expr} {t : TA}
/-- f(e, ..) of such a def -/
theorem pe_callG (F : FnG X.prog X.w X.K X.mg X.base k f fd ps sp) (gd : X.A.guards = some []) (hr : Room k X.A) (hg : Gl X x) (hm : X.mg x = some (.ref f)) (hk : PySem.W.keepIn X.K (.ref f) = true) (hb : Binds X.K fd ps [])
    (ha : PA X (e :: es) t) (hdb : (x == ("__debug__" : Str)) = false := by decide)
    (he : starEach (e :: es) X.env = (false, eval e X.env) :: starEach es X.env := by rfl)
    (hpl : (backTo pos (starEach es X.env)).any (·.1) = false := by rfl) : PE X (.Call (.Name x p) (e :: es) [] pos) (tCall sp [] E0 t) := by
  constructor
  intro pins s σ H Q I h
  apply wpAny_Call_Name_kw
  apply ld_glob I hg hm _ hdb
  apply PySem.W.callWith_K (h₀ := X.base) I.ok.mod.kin hk _ he hpl
  apply thn (ha.run pos pins s σ H _ I h)
  rintro us s1 ⟨vs, H1, I1, r, q⟩
  refine ⟨I1.kIn, ?_⟩
  have q' : sp vs H1 Q E0 := by
    have z := q
    rw [List.append_nil] at z
    exact z
  have hz : us.length = ps.length := r.length ▸ F.size _ _ _ _ q'
  have bt := hb s1 us I1.kIn (by simpa using hz)
  rw [List.append_nil] at bt
  apply wpAny_call
  apply codeAny_mono (F.go X.A X.stack s1 H1 ⟨us, []⟩ us vs Q gd hr I1.env0 bt r q')
  intro res s' hq
  match res, hq with
  | .ok (.ret u), hq => exact I1.after hq
  | .error _, hq => exact False.elim hq
end
section
variable {P : Program} {w : World} {K : PySem.W.Frag} {mg : Str → Option Value} {base : Heap}
/-- such a def, by its body -/
theorem okG {x qual : Str} {st : Stmt} {f : Addr} {fd : FuncData} {N ps : List Str} {k : Nat} {sp : Sp} (F : Fun K x qual st f fd) (S : FnScope N ps (defScope st)) (len : ∀ vs H Q E, sp vs H Q E → vs.length = ps.length)
    (body : ∀ (cdv : Value) (A : Around) (outer : List Env) (s : Shared) (H : Hp) (vs : List V) (Q : VK), A.guards = some [] → Room k (A.deeper (envOfC qual (defScope st) s.heap.objs.size f cdv)) → sp vs H Q E0 →
      ∃ t, PSs (cxOf CX0 P w K mg base N qual (defScope st) f cdv A outer s H E0).nox (defBody st) t ∧ t { nx := fun _ H' => Q .non H', rt := Q } (start N vs) H) :
    FnG P w K mg base (k + 1) f fd ps sp := by
  obtain ⟨oc, od, kV, doc, pm, an, cdv, ct, osl, rfl, lk, hcd⟩ := F.ex
  constructor
  · exact len
  intro A outer s H args us vs Q gd hr e0 hb r hsp
  have here : ∀ b o, base.get? b = some o → s.heap.get? b = some o := fun b o e => (e0.bs b o e).1
  have KX : K.In s.heap := e0.mod.kin.keeps here
  have par : ∀ y ∈ ps.zip us, (defScope st).names.lookup y.1 = some .local ∨ ((defScope st).names.lookup y.1 = some .cell ∧ ((cellsFrom (s.heap.objs.size + 1) (defScope st).names []).lookup y.1).isSome = true) := by
    rintro ⟨n, v⟩ hy
    have q := S.par n (List.of_mem_zip hy).1
    exact q.imp id fun z => ⟨z, PySem.W.cellsFrom_some _ _ _ (.inl z)⟩
  apply codeAny_call_function hr.depth (KX _ _ lk) rfl S.co S.gen rfl (PySem.W.codeRec_of KX hcd)
  apply hb
  apply wpAny_newFunctionEnv_cells S.kind par
  intro env he s1 ic
  subst he
  refine ⟨(e0.mod.nolimit.keeps here).keeps ic.toInCall.keep, codeAny_func ?_⟩
  obtain ⟨t, ht, hq⟩ := body cdv A outer s H vs Q gd (hr.deeper _) hsp
  have I0 := inv_start (CX := CX0) (E := E0) S hr.hd e0 (len _ _ _ _ hsp) r ic
  apply wpAny_mono (ht.nox.run [] s1 (start N vs) H _ I0 hq)
  · intro fl s' hs
    match fl, hs with
    | .ret u, ⟨v, σ', H', J, rv, q⟩ => exact ⟨v, H', J.os, J.bare, J.base, J.hok, rv, q⟩
    | .next, ⟨σ', H', J, q⟩ => exact ⟨V.non, H', J.os, J.bare, J.base, J.hok, rfl, q⟩
    | .brk, ⟨_, _, _, q⟩ => exact False.elim q
    | .cont, ⟨_, _, _, q⟩ => exact False.elim q
  · intro e s' hs
    exact hs
end
/-! ### isinstance of the error that a suite holds, its own dict read -/
/-- what its class must say -/
structure ErrC (K : PySem.W.Frag) (C : Addr) : Prop where
  cl : (PySem.W.clsIn K C).isSome = true
  ga : PySem.W.findIn K (.ref C) "__getattribute__" = some (some (.builtin "BaseException.__getattribute__"))
  gg : PySem.W.findIn K (.ref C) "__getattr__" = some none
  ex : PySem.W.subIn K (.ref C) (.type "BaseException") = some true
  hd : PySem.W.hasDictIn K C = true
  kc : PySem.W.findIn K (.ref C) "__class__" = some (some (.builtin "object.__class__"))
  sp : PySem.W.specialIn K (.builtin "object.__class__") "__get__" = some (some (.builtin "getset_descriptor.__get__"))
  tk : PySem.W.takesIn K (.builtin "object.__class__") = some true
  mo : PySem.W.mroIn K C (.type "object") = some true
def rIsD (K : PySem.W.Frag) (a : Addr) (cls : Value) (d : Option Addr) : List V → Hp → VK → Prop := fun xs H Q => ∃ (C B dd : Addr) (fs : List (Str × V)) (b : Bool), xs = [.ref a, .ref B] ∧ cls = .ref C ∧ ErrC K C ∧ d = some dd ∧ H dd = some (.xd fs) ∧ PySem.W.kitOne K (.ref C) (.ref B) = some b ∧ Q (.bl b) H
theorem call_isD {X : Cx} {a : Addr} {oe : Obj} {cls : Value} {d : Option Addr} {pn : List (Addr × Obj)} (hz : Zc cls d oe) (hf : ∃ vs, oe.data = .fields vs) : CallR (X.suite a ((a, oe) :: pn)) (.builtin "isinstance") (rIsD X.K a cls d) := by
  intro pins s σ H xs us Q I r h
  obtain ⟨C, B, dd, fs, b, rfl, rfl, T, rfl, ed, hk, q⟩ := h
  cases r with
  | cons rx rr =>
    cases rr with
    | cons rt rr =>
      cases rr
      cases rx
      cases rt
      have hget := (I.pin (a, oe) (List.mem_append_left _ List.mem_cons_self)).1
      obtain ⟨vs, hv⟩ := hf
      have hx : ObjOk X.prog X.w H s.heap dd (.xd fs) := I.hok dd _ ed
      obtain ⟨mA, hns, _⟩ := hx
      obtain ⟨od, ho, _⟩ := lookIn_ns hns
      have J : PySem.W.InstAt s.heap a oe C (some od) := by
        refine ⟨hget, hz.1, ?_, ?_⟩
        · unfold PySem.W.notCls
          rw [hv] <;> rfl
        · rw [hz.2]
          exact ho
      refine PySem.W.kia_one (PySem.W.kitx_exc T.cl T.ga T.gg T.ex T.kc T.sp T.tk T.mo) I.kIn J hk (fun z => nomatch z) ?_
      intro tk
      exact ⟨.bl b, H, I.kept (t' := tk) fun _ _ z => z, rfl, q⟩
/-! ### repr -/
/-- a list that is written out: it isn't at sys.modules -/
def tLstN (t : TA) : TE := fun σ H Q => t σ H fun xs H1 => xs.length ≤ sizeLine ∧ ∀ p, H1 p = none → p ≠ sysModules → Q (.ref p) (upd H1 p (.lst xs))
theorem pe_lstN {X : Cx} {es : List Expr} {t : TA} {pos : Pos} (h : PA X es t) : PE X (.List es pos) (tLstN t) := by
  constructor
  intro pins s σ H Q I want
  apply wpAny_List_spliced
  apply thn (h.run pos pins s σ H _ I want)
  rintro us s1 ⟨xs, H1, I1, vals, len, k⟩
  have free : H1 s1.heap.objs.size = none := I1.hok.fresh (Nat.le_refl _)
  refine ⟨vals.length ▸ len, .ref _, upd H1 _ (.lst xs), I1.laid (t' := s1.toks) (fun _ _ e => Heap.get?_push_of_some _ e) (Nat.le_refl _) ⟨len, us, 0, vals, Heap.get?_push_size _ rfl⟩, rfl, ?_⟩
  exact k _ free (Nat.ne_of_gt I1.big)
mutual
/-- data at a value: lists that are tracked (and are not what stands at p), tuples, the empty dict -/
inductive Dq (K : PySem.W.Frag) (p : Addr) (H : Hp) : V → PyData → Prop
  | non : Dq K p H .non .none
  | bl (b : Bool) : Dq K p H (.bl b) (.bool b)
  | int (i : Int) : Dq K p H (.int i) (.int i)
  | str (x : Str) : Dq K p H (.str x) (.str x)
  | lst {a : Addr} {xs : List V} {ds : List PyData} : a ≠ p → a ≠ sysModules → H a = some (.lst xs) → DqAll K p H xs ds → Dq K p H (.ref a) (.list ds)
  | tup {a : Addr} {xs : List V} {ds : List PyData} : SqT K H a xs → DqAll K p H xs ds → Dq K p H (.ref a) (.tuple ds)
  | emp {a : Addr} : H a = some (.dK []) → Dq K p H (.ref a) (.dict [])
inductive DqAll (K : PySem.W.Frag) (p : Addr) (H : Hp) : List V → List PyData → Prop
  | nil : DqAll K p H [] []
  | cons {v : V} {vs : List V} {d : PyData} {ds : List PyData} : Dq K p H v d → DqAll K p H vs ds → DqAll K p H (v :: vs) (d :: ds)
end
mutual
theorem Dq.ex {K : PySem.W.Frag} {p : Addr} {H H' : Hp} (e : Ex H H') : ∀ (d : PyData) (v : V), Dq K p H v d → Dq K p H' v d
  | _, _, .non => .non
  | _, _, .bl b => .bl b
  | _, _, .int i => .int i
  | _, _, .str x => .str x
  | _, _, .lst n m h hs => .lst n m (e _ _ h) (DqAll.ex e _ _ hs)
  | _, _, .tup h hs => .tup (ex_t e h) (DqAll.ex e _ _ hs)
  | _, _, .emp h => .emp (e _ _ h)
theorem DqAll.ex {K : PySem.W.Frag} {p : Addr} {H H' : Hp} (e : Ex H H') : ∀ (ds : List PyData) (vs : List V), DqAll K p H vs ds → DqAll K p H' vs ds
  | _, _, .nil => .nil
  | _, _, .cons h hs => .cons (Dq.ex e _ _ h) (DqAll.ex e _ _ hs)
end
section
variable {X : Cx} {pins : List (Addr × Obj)} {σ : L2.St} {H : Hp} {s : Shared}
mutual
theorem Dq.reads {p : Addr} (I : Inv X pins σ H s) : ∀ (d : PyData) (v : V) (u : Value), Dq X.K p H v d → RelV v u → ∃ as, Reads s.heap u d as ∧ sysModules ∉ as
  | _, _, u, .non, r => by
    cases (show u = Value.none from r)
    exact ⟨_, .none, by simp⟩
  | _, _, u, .bl b, r => by
    cases (show u = Value.bool b from r)
    exact ⟨_, .bool b, by simp⟩
  | _, _, u, .int i, r => by
    obtain ⟨t, q⟩ := (show ∃ t, u = Value.int i t from r)
    cases q
    exact ⟨_, .int i t, by simp⟩
  | _, _, u, .str x, r => by
    obtain ⟨t, q⟩ := (show ∃ t, u = Value.str x t from r)
    cases q
    exact ⟨_, .str x t, by simp⟩
  | _, _, u, .lst (a := a) _ m h hs, r => by
    cases (show u = Value.ref a from r)
    have hx : ObjOk X.prog X.w H s.heap a (.lst _) := I.hok a _ h
    obtain ⟨_, its, n, rv, e⟩ := hx
    obtain ⟨as, q, nm⟩ := DqAll.reads I _ _ _ hs rv
    exact ⟨_, .list e rfl rfl (by simpa using q), by
      simp only [List.mem_cons, not_or]
      exact ⟨m.symm, nm⟩⟩
  | _, _, u, .tup (a := a) h hs, r => by
    cases (show u = Value.ref a from r)
    obtain ⟨its, rv, ⟨o, e, c, n, dd⟩, _⟩ := I.tuple h
    obtain ⟨as, q, nm⟩ := DqAll.reads I _ _ _ hs rv
    exact ⟨_, .tuple e c dd (by simpa using q), nm⟩
  | _, _, u, .emp (a := a) h, r => by
    cases (show u = Value.ref a from r)
    obtain ⟨_, nsm, vs, kv, o, es, ep, e, x, dd, _, pr, _⟩ := dk_of I.hok h
    cases kv
    have e0 : es.toList = [] := by
      cases hh : es.toList with
      | nil => rfl
      | cons y ys =>
        rw [hh] at pr
        cases pr
    exact ⟨_, .dict (as := []) (bs := []) e x.1 dd (by rw [e0]; exact .nil) (by rw [e0]; exact .nil), by
      have := (beq_eq_false_iff_ne.mp nsm).symm
      simpa using this⟩
theorem DqAll.reads {p : Addr} (I : Inv X pins σ H s) : ∀ (ds : List PyData) (vs : List V) (us : List Value), DqAll X.K p H vs ds → Vals vs us → ∃ as, ReadsAll s.heap us ds as ∧ sysModules ∉ as
  | _, _, us, .nil, r => by
    cases r
    exact ⟨_, .nil, by simp⟩
  | _, _, us, .cons h hs, r => by
    cases r with
    | cons r1 r2 =>
      obtain ⟨as, q1, n1⟩ := Dq.reads I _ _ _ h r1
      obtain ⟨bs, q2, n2⟩ := DqAll.reads I _ _ _ hs r2
      exact ⟨_, .cons q1 q2, by
        simp only [List.mem_append, not_or]
        exact ⟨n1, n2⟩⟩
end
end
mutual
theorem Dp.nd {K : PySem.W.Frag} {H : Hp} : ∀ (d : PyData) (v : V), Dp K H v d → d.hasDict = false
  | _, _, .non => rfl
  | _, _, .bl _ => rfl
  | _, _, .int _ => rfl
  | _, _, .str _ => rfl
  | _, _, .lst _ hs => by simp only [PyData.hasDict]; exact DpAll.nd _ _ hs
  | _, _, .tup _ hs => by simp only [PyData.hasDict]; exact DpAll.nd _ _ hs
theorem DpAll.nd {K : PySem.W.Frag} {H : Hp} : ∀ (ds : List PyData) (vs : List V), DpAll K H vs ds → PyData.hasDictAll ds = false
  | _, _, .nil => rfl
  | _, _, .cons h hs => by simp only [PyData.hasDictAll, Dp.nd _ _ h, DpAll.nd _ _ hs, Bool.or_false]
end
def rRepr (K : PySem.W.Frag) : List V → Hp → VK → Prop := fun xs H Q => ∃ (x : V) (d : PyData) (p : Addr), xs = [x] ∧ (Dq K p H x d ∨ Dp K H x d) ∧ d.showable = true ∧ d.depth ≤ 60 ∧ d.shown.length ≤ sizeLine ∧ Q (.str d.shown) H
section
variable {X : Cx}
theorem call_repr (gd : X.A.guards = some []) (hu : X.A.units + 64 < cLine) : CallR X (.builtin "repr") (rRepr X.K) := by
  intro pins s σ H xs us Q I r h
  obtain ⟨x, d, p, rfl, hd, hs, hdep, hz, q⟩ := h
  cases r with
  | cons r1 r2 =>
    cases r2
    rename_i u
    obtain ⟨as, hr, nm⟩ : ∃ as, Reads s.heap u d as ∧ (d.hasDict = true → sysModules ∉ as) := by
      rcases hd with hd | hd
      · obtain ⟨as, hr, nm⟩ := Dq.reads I d x u hd r1
        exact ⟨as, hr, fun _ => nm⟩
      · obtain ⟨as, hr⟩ := Dp.reads I d x u hd r1
        exact ⟨as, hr, fun z => by rw [Dp.nd d x hd] at z; cases z⟩
    have fin : ∀ h' u' tk, (∀ b o, s.heap.get? b = some o → h'.get? b = some o) → EP X pins σ Q (.str d.shown u') { s with heap := h', toks := tk } := fun h' u' tk hk => ⟨.str d.shown, H, I.kept hk, ⟨_, rfl⟩, q⟩
    have f0 := fin s.heap s.toks (s.toks + 1) (fun _ _ z => z)
    cases hr with
    | none => exact PySem.P.repr_of_none (by simpa [PyData.shown] using f0)
    | bool b => exact PySem.P.repr_of_bool (by simpa [PyData.shown] using f0)
    | int i t => exact PySem.P.repr_of_int (by simpa [PyData.showable] using hs) (by simpa [PyData.shown] using f0)
    | str y t => exact PySem.P.repr_of_str (by simpa [PyData.shown] using f0) (by simpa [PyData.shown] using hz)
    | list h1 h2 h3 h4 => exact repr_of_reads' (.list h1 h2 h3 h4) hs nm gd (by omega) (fun _ _ z => z) (fun h' u' tk hk => fin h' u' tk hk) hz
    | tuple h1 h2 h3 h4 => exact repr_of_reads' (.tuple h1 h2 h3 h4) hs nm gd (by omega) (fun _ _ z => z) (fun h' u' tk hk => fin h' u' tk hk) hz
    | dict h1 h2 h3 h4 h5 => exact repr_of_reads' (.dict h1 h2 h3 h4 h5) hs nm gd (by omega) (fun _ _ z => z) (fun h' u' tk hk => fin h' u' tk hk) hz
end
end Jf
set_option Elab.async false
set_option linter.all false
set_option maxRecDepth 100000
set_option maxHeartbeats 4000000
namespace Jf
open PySem PySem.Spec PyProof.Rows L2 Evl
/-! ### how long shown data is -/
def lens : List Str → Nat
  | [] => 0
  | t :: ts => t.length + 2 + lens ts
theorem textFrom_le : ∀ (ts : List Str) (k : Nat) (acc : Str), (textFrom k acc ts).length ≤ acc.length + lens ts
  | [], _, acc => by simp [textFrom, lens]
  | t :: ts, k, acc => by
    have h := textFrom_le ts (k + 1) (acc ++ (if k > 0 then ", " else "" : String) ++ t)
    have e : ((if k > 0 then ", " else "" : String) : Str).length ≤ 2 := by
      by_cases z : k > 0
      · rw [if_pos z]; decide
      · rw [if_neg z]; decide
    simp only [textFrom, lens, Str.length_append] at h ⊢
    omega
theorem join_le : ∀ ts : List Str, (Str.join ", " ts).length ≤ lens ts
  | [] => by simp only [Str.join, lens]; decide
  | [x] => by simp only [Str.join, lens]; omega
  | x :: y :: r => by
    have h := join_le (y :: r)
    have e : ((", " : String) : Str).length = 2 := by decide
    simp only [Str.join, lens, Str.length_append] at h ⊢
    omega
mutual
def cost : PyData → Nat
  | .none => 4
  | .bool _ => 5
  | .int i => i.natAbs.log2 + 3
  | .str x => (reprText x).length
  | .list xs => costAll xs + 4
  | .tuple xs => costAll xs + 4
  | .dict [] => 2
  | .dict (_ :: _) => 100000000
def costAll : List PyData → Nat
  | [] => 0
  | x :: xs => cost x + 2 + costAll xs
end
mutual
theorem shown_le : ∀ d : PyData, cost d < 100000000 → d.shown.length ≤ cost d
  | .none, _ => by simp only [PyData.shown, cost]; decide
  | .bool b, _ => by cases b <;> (simp only [PyData.shown, cost]; decide)
  | .int i, _ => by
    simp only [PyData.shown, cost]
    have h := int_text_length_le (a := i) (k := i.natAbs.log2 + 1) (by omega) (by omega)
    show (Str.ofString (toString i)).length ≤ _
    rw [PySem.ofString_length]
    omega
  | .str x, _ => by simp only [PyData.shown, cost]; omega
  | .list xs, h => by
    simp only [cost] at h
    have := shownAll_le xs (by omega)
    have z := textFrom_le (PyData.shownAll xs) 0 (Str.ofString "[")
    have e : (Str.ofString "[").length = 1 := by decide
    have e2 : (Str.ofString "]").length = 1 := by decide
    simp only [PyData.shown, cost, listText, Str.length_append] at z ⊢
    omega
  | .tuple xs, h => by
    simp only [cost] at h
    have := shownAll_le xs (by omega)
    have z := join_le (PyData.shownAll xs)
    have e : (Str.ofString "(").length = 1 := by decide
    have e2 : ((if (PyData.shownAll xs).length == 1 then ",)" else ")" : String) : Str).length ≤ 2 := by
      by_cases q : ((PyData.shownAll xs).length == 1) = true
      · rw [if_pos q]; decide
      · rw [if_neg q]; decide
    simp only [PyData.shown, cost, tupleText, Str.length_append] at z ⊢
    omega
  | .dict [], _ => by simp only [PyData.shown, PyData.shownKv, cost]; decide
  | .dict (_ :: _), h => by simp only [cost] at h; omega
theorem shownAll_le : ∀ ds : List PyData, costAll ds < 100000000 → lens (PyData.shownAll ds) ≤ costAll ds
  | [], _ => by simp [PyData.shownAll, lens, costAll]
  | d :: ds, h => by
    simp only [costAll] at h
    have h1 := shown_le d (by omega)
    have h2 := shownAll_le ds (by omega)
    simp only [PyData.shownAll, lens, costAll]
    omega
end
/-- data that is shown without harm: its text, its depth -/
structure Nc (c e : Nat) (d : PyData) : Prop where
  sh : d.showable = true
  dp : d.depth ≤ e
  co : cost d ≤ c
theorem Nc.mono {c c' e e' : Nat} {d : PyData} (h : Nc c e d) (h1 : c ≤ c') (h2 : e ≤ e') : Nc c' e' d := ⟨h.sh, Nat.le_trans h.dp h2, Nat.le_trans h.co h1⟩
theorem Nc.len {c e : Nat} {d : PyData} (h : Nc c e d) (hc : c ≤ 1000000) : d.shown.length ≤ c := Nat.le_trans (shown_le d (by have := h.co; omega)) h.co
theorem nc_none : Nc 4 0 .none := ⟨rfl, Nat.le_refl _, Nat.le_refl _⟩
theorem nc_bool (b : Bool) : Nc 5 0 (.bool b) := ⟨rfl, Nat.le_refl _, Nat.le_refl _⟩
theorem nc_int {n : Int} {b : Nat} (h : n.natAbs < 2 ^ b) (h0 : 0 < b) (h1 : b ≤ 1900) : Nc (b + 2) 0 (.int n) := by
  have := PySem.Flt.log2_lt_of h0 h
  refine ⟨?_, Nat.le_refl _, ?_⟩
  · simp only [PyData.showable, decide_eq_true_eq]; omega
  · simp only [cost]; omega
theorem nc_str {x : Str} {c : Nat} (h : (reprText x).length ≤ c) : Nc c 0 (.str x) := ⟨rfl, Nat.le_refl _, h⟩
/-- several -/
structure NcA (c e : Nat) (ds : List PyData) : Prop where
  sh : PyData.showableAll ds = true
  dp : PyData.depthAll ds ≤ e
  co : costAll ds ≤ c
theorem nca_nil {e : Nat} : NcA 0 e [] := ⟨rfl, Nat.zero_le _, Nat.le_refl _⟩
theorem nca_cons {c c' e : Nat} {d : PyData} {ds : List PyData} (h : Nc c e d) (hs : NcA c' e ds) : NcA (c + 2 + c') e (d :: ds) := by
  refine ⟨?_, ?_, ?_⟩
  · simp only [PyData.showableAll, h.sh, hs.sh, Bool.and_self]
  · simp only [PyData.depthAll]; exact Nat.max_le.mpr ⟨h.dp, hs.dp⟩
  · simp only [costAll]; have := h.co; have := hs.co; omega
theorem nc_tup {c e : Nat} {ds : List PyData} (h : NcA c e ds) : Nc (c + 4) (e + 1) (.tuple ds) := by
  refine ⟨?_, ?_, ?_⟩
  · simp only [PyData.showable, h.sh]
  · simp only [PyData.depth]; have := h.dp; omega
  · simp only [cost]; have := h.co; omega
theorem nc_lst {c e : Nat} {ds : List PyData} (h : NcA c e ds) : Nc (c + 4) (e + 1) (.list ds) := by
  refine ⟨?_, ?_, ?_⟩
  · simp only [PyData.showable, h.sh]
  · simp only [PyData.depth]; have := h.dp; omega
  · simp only [cost]; have := h.co; omega
theorem nc_emp : Nc 2 1 (.dict []) := ⟨rfl, Nat.le_refl _, Nat.le_refl _⟩
theorem nc_pair {n m : Int} {b : Nat} (hn : n.natAbs < 2 ^ b) (hm : m.natAbs < 2 ^ b) (h0 : 0 < b) (h1 : b ≤ 1900) : Nc (2 * b + 12) 1 (.tuple [.int n, .int m]) :=
  (nc_tup (nca_cons (nc_int hn h0 h1) (nca_cons (nc_int hm h0 h1) nca_nil))).mono (by omega) (by omega)
/-! ### which data is what -/
def tyName : PyData → String
  | .none => "NoneType"
  | .bool _ => "bool"
  | .int _ => "int"
  | .str _ => "str"
  | .list _ => "list"
  | .tuple _ => "tuple"
  | .dict _ => "dict"
def isTup : PyData → Bool
  | .tuple _ => true
  | _ => false
def isInt : PyData → Bool
  | .int _ => true
  | .bool _ => true
  | _ => false
def isBo : PyData → Bool
  | .bool _ => true
  | _ => false
def isWh : PyData → Bool
  | .int _ => true
  | _ => false
theorem wh_eq (d : PyData) : (isInt d && !isBo d) = isWh d := by cases d <;> rfl
theorem kit_tup (d : PyData) : kitB (tyName d) "tuple" = some (isTup d) := by cases d <;> (simp only [tyName, isTup]; decide +kernel)
theorem kit_int (d : PyData) : kitB (tyName d) "int" = some (isInt d) := by cases d <;> (simp only [tyName, isInt]; decide +kernel)
theorem kit_bool (d : PyData) : kitB (tyName d) "bool" = some (isBo d) := by cases d <;> (simp only [tyName, isBo]; decide +kernel)
section
variable {K : PySem.W.Frag} {p : Addr} {H H' : Hp} {v : V} {d : PyData}
theorem Dq.ty (h : Dq K p H v d) : TyX K H v (.type (tyName d)) := by
  cases h with
  | non => exact .base .non
  | bl b => exact .base (.bl b)
  | int i => exact .base (.int i)
  | str x => exact .base (.str x)
  | lst _ _ h _ => exact .base (.lst h)
  | tup h _ =>
    rcases h with (h | ⟨o, h⟩) | ⟨o, _, _, h, c, _⟩
    · exact .base (.tup h)
    · exact .fTuple h
    · exact .kTuple h c
  | emp h => exact .base (.dK h)
theorem DqAll.len : ∀ {vs : List V} {ds : List PyData}, DqAll K p H vs ds → vs.length = ds.length
  | _, _, .nil => rfl
  | _, _, .cons _ h => by rw [List.length_cons, List.length_cons, h.len]
theorem DqAll.mem : ∀ {vs : List V} {ds : List PyData}, DqAll K p H vs ds → ∀ x ∈ vs, ∃ d ∈ ds, Dq K p H x d
  | _, _, .nil, x, hx => nomatch hx
  | _, _, .cons (d := d) h hs, x, hx => by
    rcases List.mem_cons.mp hx with rfl | hx
    · exact ⟨d, List.mem_cons_self, h⟩
    · obtain ⟨e, he, q⟩ := hs.mem x hx
      exact ⟨e, List.mem_cons_of_mem _ he, q⟩
theorem DqAll.append : ∀ {vs ws : List V} {ds es : List PyData}, DqAll K p H vs ds → DqAll K p H ws es → DqAll K p H (vs ++ ws) (ds ++ es)
  | _, _, _, _, .nil, h => h
  | _, _, _, _, .cons a b, h => .cons a (b.append h)
/-- a fraction's data -/
def frd (q : Rat) : PyData := .tuple [.int q.num, .int (q.den : Int)]
theorem Fr.dq {b : Nat} {q : Rat} (h : Fr K b q v H) : Dq K p H v (frd q) := by
  obtain ⟨a, rfl, h, _⟩ := h
  exact .tup h (.cons (.int _) (.cons (.int _) .nil))
theorem Fr.nc {b : Nat} {q : Rat} (h : Fr K b q v H) (h0 : 0 < b) (h1 : b ≤ 1900) : Nc (2 * b + 12) 1 (frd q) := nc_pair h.bd.1 (bd_den h.bd) h0 h1
/-- whether it is a fraction's -/
def frB : PyData → Bool
  | .tuple [.int n, .int m] => decide (0 < m) && decide (Nat.gcd n.natAbs m.natAbs = 1)
  | _ => false
def frQ : PyData → Rat
  | .tuple [.int n, .int m] => Rat.divInt n m
  | _ => 0
theorem divInt_low {n m : Int} (hm : 0 < m) (hg : Nat.gcd n.natAbs m.natAbs = 1) : (Rat.divInt n m).num = n ∧ ((Rat.divInt n m).den : Int) = m := by
  obtain ⟨h1, h2⟩ := low_eq n m (by omega) 1 (by rw [if_neg (by omega)])
  rw [hg] at h1 h2
  constructor
  · rw [← h1]; simp
  · rw [← h2]; simp
theorem frB_frd (q : Rat) : frB (frd q) = true := by
  have := den_pos q
  have h := red q
  simp only [frd, frB, h, decide_true, Bool.and_true, decide_eq_true_eq]
  exact this
theorem frQ_frd (q : Rat) : frQ (frd q) = q := by
  simp only [frd, frQ]
  exact Rat.num_divInt_den q
theorem frB_iff (h : frB d = true) : d = frd (frQ d) := by
  unfold frB at h
  split at h
  · rename_i n m
    rw [Bool.and_eq_true] at h
    obtain ⟨h1, h2⟩ := divInt_low (of_decide_eq_true h.1) (of_decide_eq_true h.2)
    simp only [frd, frQ, h1, h2]
  · cases h
theorem Dq.fr {b : Nat} (h : Dq K p H v d) (hb : frB d = true) (bd : Bd b (frQ d)) : Fr K b (frQ d) v H := by
  have e := frB_iff hb
  generalize frQ d = q at e bd
  subst e
  cases h with
  | tup h hs =>
    cases hs with
    | cons h1 h2 =>
      cases h2 with
      | cons h3 h4 =>
        cases h4
        cases h1
        cases h3
        exact ⟨_, rfl, h, bd⟩
end
end Jf
set_option Elab.async false
set_option linter.all false
set_option maxRecDepth 100000
set_option maxHeartbeats 4000000
namespace Jf
open PySem PySem.Spec PyProof.Rows L2 Evl
/-! ### the end of a law whose def shows data -/
/-- the script, known to its object; else nothing -/
def track (a : Addr) (vs : List Value) (ns : List Int) : Hp := fun b => if b = a then some (.frz { cls := .type "list", data := .seq vs.toArray } (.lst (ns.map V.int))) else none
theorem track_at {a : Addr} {vs : List Value} {ns : List Int} : track a vs ns a = some (.frz { cls := .type "list", data := .seq vs.toArray } (.lst (ns.map V.int))) := if_pos rfl
theorem track_ne {a b : Addr} {vs : List Value} {ns : List Int} (h : b ≠ a) : track a vs ns b = none := if_neg h
/-- what the law's promise is asked at -/
structure Asked (K : PySem.W.Frag) (h : Heap) (a : Addr) (vs : List Value) (ns : List Int) (H : Hp) : Prop where
  known : SqL K H a (ns.map V.int)
  only : ∀ b u, H b = some u → b = a ∧ ∃ o xs, u = .frz o (.lst xs)
  free : ∀ b o, K.lookup b = some o → H b = none
theorem seq_not_dict {h : Heap} {a : Addr} {vs : Array Value} {m : Str → Option Value} (ha : h.get? a = some { cls := .type "list", data := .seq vs }) : ¬ h.Ns a m := by
  rintro ⟨o, es, ep, e, d, _⟩
  rw [ha] at e
  cases e
  cases d
section
variable {P : Program} {w : World} {K : PySem.W.Frag} {mg mb : Str → Option Value} {k : Nat} {fa a : Addr} {fd : FuncData} {x : Str} {sp : Sp} {s₁ : Shared} {vs : List Value} {ns : List Int}
theorem go_law {H : Hp} (S : Asked K s₁.heap a vs ns H) (hok : HOk P w H s₁.heap) (KX : K.In s₁.heap) (hns : s₁.heap.Ns mainGlobals mg) (hb : s₁.heap.Ns builtinsNs mb) (hbb : ∀ x : Str, x ≠ "__name__" → mb x = bootBuiltins x) (hlim : s₁.heap.NoLimit) (hg : s₁.gens = #[])
    (ha : s₁.heap.get? a = some { cls := .type "list", data := .seq vs.toArray }) (hr : Room k callerA)
    (F : ∀ base : Heap, K.In base → base.Ns mainGlobals mg → FnG P w K mg base k fa fd [x] sp) (hbind : ∀ (s : Shared) (u : Value), BindsTo s fd ⟨[u], []⟩ [(x, u)])
    (hsp : sp [.ref a] H (fun v _ => v = .bl true) E0) :
    codeAny (model P w) callerA (.call (.ref fa) ⟨[.ref a], []⟩) (fun r s' => r = .ok (.ret (.bool true)) ∧ PySem.OldK s₁.heap s'.heap ∧ s'.os = s₁.os ∧ AllBare s'.gens) s₁ := by
  have ns_of : ∀ {b : Addr} {m : Str → Option Value}, s₁.heap.Ns b m → (hidT s₁.heap H).Ns b m := by
    intro b m hn
    have hn' := hn
    obtain ⟨o, es, ep, e, r⟩ := hn
    refine ⟨o, es, ep, hidT_get e ?_, r⟩
    cases q : H b with
    | none => rfl
    | some u =>
      obtain ⟨rfl, _⟩ := S.only b u q
      exact absurd hn' (seq_not_dict ha)
  have hKb : K.In (hidT s₁.heap H) := fun b o e => hidT_get (KX b o e) (S.free b o e)
  obtain ⟨mc, l1, l2⟩ := hlim
  have e0 : Env0 P w K mg (hidT s₁.heap H) callerA [] s₁ H := by
    constructor
    · rfl
    · exact ⟨hKb, ns_of hns, ⟨mb, ns_of hb, hbb⟩, ⟨mc, ns_of l1, l2⟩⟩
    · exact fun b o e => of_hidT e
    · exact Nat.le_of_eq (hidT_size _ _)
    · trivial
    · intro b hb
      exact absurd (show b ∈ ([] : List Addr) from hb) (by simp)
    · exact hok
    · exact .of_eq hg
  apply codeAny_mono ((F _ hKb (ns_of hns)).go callerA [] s₁ H ⟨[.ref a], []⟩ [.ref a] [.ref a] _ rfl hr e0 (hbind s₁ (.ref a)) (.cons rfl .nil) hsp)
  intro r s' h
  match r, h with
  | .error _, h => exact False.elim h
  | .ok (.ret u), ⟨v, H', os, bare, un, hok', r', q⟩ =>
    subst q
    obtain rfl : u = Value.bool true := r'
    refine ⟨rfl, PySem.OldK.of_keep ?_, os, bare⟩
    intro b o e
    cases q : H b with
    | none => exact un.keep b o e q (by intro z; exact absurd (show b ∈ ([] : List Addr) from z) (by simp)) (by simp)
    | some u =>
      obtain ⟨rfl, ob, xs, rfl⟩ := S.only b u q
      have q2 := un.frzs b ob _ q
      have e1 := (hok b _ q).1
      have e2 := (hok' b _ q2).1
      rw [e] at e1
      cases e1
      exact e2
theorem law_callG (KX : K.In s₁.heap) (hns : s₁.heap.Ns mainGlobals mg) (hb : s₁.heap.Ns builtinsNs mb) (hbb : ∀ x : Str, x ≠ "__name__" → mb x = bootBuiltins x) (hlim : s₁.heap.NoLimit) (hg : s₁.gens = #[])
    (ha : s₁.heap.get? a = some { cls := .type "list", data := .seq vs.toArray }) (hi : IntsAre vs ns) (hl : ns.length ≤ sizeLine) (hr : Room k callerA)
    (F : ∀ base : Heap, K.In base → base.Ns mainGlobals mg → FnG P w K mg base k fa fd [x] sp) (hbind : ∀ (s : Shared) (u : Value), BindsTo s fd ⟨[u], []⟩ [(x, u)])
    (hsp : ∀ H : Hp, SqL K H a (ns.map V.int) → sp [.ref a] H (fun v _ => v = .bl true) E0) :
    codeAny (model P w) callerA (.call (.ref fa) ⟨[.ref a], []⟩) (fun r s' => r = .ok (.ret (.bool true)) ∧ PySem.OldK s₁.heap s'.heap ∧ s'.os = s₁.os ∧ AllBare s'.gens) s₁ := by
  have rv := vals_ints hi
  cases hk : K.lookup a with
  | some o =>
    have e := KX a o hk
    rw [ha] at e
    cases e
    have known : SqL K (fun _ => none) a (ns.map V.int) := .inr ⟨_, vs.toArray, _, hk, rfl, rfl, rfl, by rw [List.size_toArray, hi.length]; exact hl, by simpa using rv⟩
    exact go_law (H := fun _ => none) ⟨known, (fun _ _ z => nomatch z), (fun _ _ _ => rfl)⟩ (fun _ _ z => nomatch z) KX hns hb hbb hlim hg ha hr F hbind (hsp _ known)
  | none =>
    have known : SqL K (track a vs ns) a (ns.map V.int) := .inl (.inr ⟨_, track_at⟩)
    refine go_law (H := track a vs ns) ⟨known, fun b u z => ?_, fun b o z => track_ne ?_⟩ (fun b u z => ?_) KX hns hb hbb hlim hg ha hr F hbind (hsp _ known)
    · by_cases h : b = a
      · subst h
        rw [track_at] at z
        cases z
        exact ⟨rfl, _, _, rfl⟩
      · rw [track_ne h] at z
        cases z
    · rintro rfl
      rw [hk] at z
      cases z
    · by_cases h : b = a
      · subst h
        rw [track_at] at z
        cases z
        exact ⟨ha, by rw [List.length_map]; exact hl, vs, _, rv, ha⟩
      · rw [track_ne h] at z
        cases z
end
theorem walk_ofG {l : PySem.W.OpenLaw} {n k : Nat} {q : Program} {loose : List Str} {XP : (Str → Option Value) → Heap → Prop} {YP : World → Heap → Prop} {d : DefRec} {K : Params → PySem.W.Frag} {sp : World → Sp} {x : Str}
    (hn : l.most = some n) (hn2 : n ≤ sizeLine) (hdf : d.params.defaults = []) (hr : Room k callerA) (hY : ∀ (w : World) (h : Heap), YP w h → (K w.params).In h)
    (F : ∀ (w : World) (mg : Str → Option Value) (fa : Addr) (h : Heap), (K w.params).In h → h.Ns mainGlobals mg → mg d.name = some (.ref fa) →
      ∃ fd : FuncData, (∀ (s : Shared) (u : Value), BindsTo s fd ⟨[u], []⟩ [(x, u)]) ∧ ∀ base : Heap, (K w.params).In base → base.Ns mainGlobals mg → FnG l.prog w (K w.params) mg base k fa fd [x] (sp w))
    (hsp : ∀ (w : World) (H : Hp) (a : Addr) (ns : List Int), ns.length ≤ n → SqL (K w.params) H a (ns.map V.int) → sp w [.ref a] H (fun v _ => v = .bl true) E0) :
    PySem.W.WalkO q loose XP YP l.row.toRowW d [] (fun f vs => PySem.call f vs) := by
  apply Att.attach_call hn hdf
  intro w s₀ s₁ mg mb fa o pm cd doc a vs ns G Y _ _ _ hmg hobj hints hlen hg
  obtain ⟨fd, hb, hF⟩ := F w mg fa _ (hY w _ Y) G.T.g hmg
  exact law_callG (hY w _ Y) G.T.g G.T.b G.T.builtins G.T.nolimit hg hobj hints (Nat.le_trans hlen hn2) hr hF hb fun H hS => hsp w H a ns hlen hS
end Jf
set_option Elab.async false
set_option linter.all false
set_option maxRecDepth 100000
set_option maxHeartbeats 4000000
namespace Jf
open PySem PySem.Spec PyProof.Rows L2 Evl
/-! ### the end of a law whose def shows data, some defs of which hold generators (cs: their code objects, with the tables) -/
def trackT (cs : List (Addr × Addr)) (H : Hp) : Hp := fun b => if b ∈ cs.map (fun p => p.2) then some (.tbl #[]) else H b
theorem trackT_in {cs : List (Addr × Addr)} {H : Hp} {b : Addr} (h : b ∈ cs.map (fun p => p.2)) : trackT cs H b = some (.tbl #[]) := if_pos h
theorem trackT_out {cs : List (Addr × Addr)} {H : Hp} {b : Addr} (h : b ∉ cs.map (fun p => p.2)) : trackT cs H b = H b := if_neg h
structure AskedT (K : PySem.W.Frag) (cs : List (Addr × Addr)) (a : Addr) (ns : List Int) (H : Hp) : Prop where
  known : SqL K H a (ns.map V.int)
  tbl : ∀ b ∈ cs.map (fun p => p.2), H b = some (.tbl #[])
  only : ∀ b u, H b = some u → b ∈ cs.map (fun p => p.2) ∨ (b = a ∧ ∃ o xs, u = .frz o (.lst xs))
  free : ∀ b o, K.lookup b = some o → H b = none
section
variable {P : Program} {w : World} {K : PySem.W.Frag} {mg mb : Str → Option Value} {k : Nat} {fa a : Addr} {fd : FuncData} {x : Str} {sp : Sp} {s₁ : Shared} {vs : List Value} {ns : List Int} {cs : List (Addr × Addr)}
theorem go_lawT {H : Hp} (S : AskedT K cs a ns H) (hok : HOk P w H s₁.heap) (KX : K.In s₁.heap) (hns : s₁.heap.Ns mainGlobals mg) (hb : s₁.heap.Ns builtinsNs mb) (hbb : ∀ x : Str, x ≠ "__name__" → mb x = bootBuiltins x) (hlim : s₁.heap.NoLimit) (hg : s₁.gens = #[])
    (hT : ∀ p ∈ cs, s₁.heap.get? p.2 = some { cls := .none, data := .fields #[] }) (hC : ∀ p ∈ cs, PySem.W.CodeHd s₁.heap p.1 p.2)
    (hbm : ∃ (bm : Addr) (ob : Obj), mg "__builtins__" = some (.ref bm) ∧ bm ≠ builtinsNs ∧ s₁.heap.get? bm = some ob ∧ ob.cls = .type "module" ∧ ob.dict = some builtinsNs ∧ ob.data = .plain)
    (ha : s₁.heap.get? a = some { cls := .type "list", data := .seq vs.toArray }) (hr : Room k callerA)
    (F : ∀ base : Heap, K.In base → base.Ns mainGlobals mg → (∀ p ∈ cs, GxR.TabB base mg p.1 p.2) → FnG P w K mg base k fa fd [x] sp) (hbind : ∀ (s : Shared) (u : Value), BindsTo s fd ⟨[u], []⟩ [(x, u)])
    (hsp : sp [.ref a] H (fun v _ => v = .bl true) E0) :
    codeAny (model P w) callerA (.call (.ref fa) ⟨[.ref a], []⟩) (fun r s' => r = .ok (.ret (.bool true)) ∧ PySem.OldK s₁.heap s'.heap ∧ s'.os = s₁.os ∧ AllBare s'.gens) s₁ := by
  have atT : ∀ b ∈ cs.map (fun p => p.2), s₁.heap.get? b = some { cls := .none, data := .fields #[] } := by
    intro b h
    obtain ⟨p, hp, rfl⟩ := List.mem_map.mp h
    exact hT p hp
  -- what has other data isn't tracked
  have other : ∀ {b : Addr} {o : Obj}, s₁.heap.get? b = some o → o.data ≠ .fields #[] → (∀ us n, o.data ≠ .seq us n) → H b = none := by
    intro b o e n1 n2
    cases q : H b with
    | none => rfl
    | some u =>
      rcases S.only b u q with z | ⟨rfl, _⟩
      · rw [atT b z] at e
        cases e
        exact absurd rfl n1
      · rw [ha] at e
        cases e
        exact absurd rfl (n2 _ _)
  have base_ns : ∀ {b : Addr} {m : Str → Option Value}, s₁.heap.Ns b m → (hidT s₁.heap H).Ns b m := by
    rintro b m ⟨o, es, ep, e, d, r⟩
    exact ⟨o, es, ep, hidT_get e (other e (by rw [d]; exact fun z => nomatch z) fun us n z => by rw [d] at z; cases z), d, r⟩
  have hKb : K.In (hidT s₁.heap H) := fun b o e => hidT_get (KX b o e) (S.free b o e)
  have TB : ∀ p ∈ cs, GxR.TabB (hidT s₁.heap H) mg p.1 p.2 := by
    intro p hp
    have tp := hT p hp
    obtain ⟨o, us, file, tf, flags, tg, inF, text, tt, c1, c2, c3, c4, c5⟩ := hC p hp
    obtain ⟨bm, ob, b1, b2, b3, b4, b5, b6⟩ := hbm
    constructor
    · refine ⟨o, us, file, tf, flags, tg, inF, text, tt, hidT_get c1 (other c1 (fun z => ?_) fun us n z => ?_), c2, c3, c4, c5⟩
      · rw [c3] at z
        cases z
        simp at c4
      · rw [c3] at z
        cases z
    · refine ⟨bm, ob, b1, b2, fun z => ?_, fun z => ?_, hidT_get b3 (other b3 (by rw [b6]; exact fun z => nomatch z) fun us n z => by rw [b6] at z; cases z), b4, b5, b6⟩
      · obtain ⟨o2, es, ep, e, d, _⟩ := hns
        rw [z, e] at b3
        cases b3
        rw [d] at b6
        cases b6
      · rw [z, tp] at b3
        cases b3
        cases b6
    · intro z
      obtain ⟨o2, es, ep, e, d, _⟩ := hns
      rw [z, tp] at e
      cases e
      cases d
  obtain ⟨mc, l1, l2⟩ := hlim
  have e0 : Env0 P w K mg (hidT s₁.heap H) callerA [] s₁ H := by
    constructor
    · rfl
    · exact ⟨hKb, base_ns hns, ⟨mb, base_ns hb, hbb⟩, ⟨mc, base_ns l1, l2⟩⟩
    · exact fun b o e => of_hidT e
    · exact Nat.le_of_eq (hidT_size _ _)
    · trivial
    · intro b hb
      exact absurd (show b ∈ ([] : List Addr) from hb) (by simp)
    · exact hok
    · exact .of_eq hg
  apply codeAny_mono ((F _ hKb (base_ns hns) TB).go callerA [] s₁ H ⟨[.ref a], []⟩ [.ref a] [.ref a] _ rfl hr e0 (hbind s₁ (.ref a)) (.cons rfl .nil) hsp)
  intro r s' h
  match r, h with
  | .error _, h => exact False.elim h
  | .ok (.ret u), ⟨v, H', os, bare, un, hok', r', q⟩ =>
    subst q
    obtain rfl : u = Value.bool true := r'
    have same : ∀ b o, b ∉ cs.map (fun p => p.2) → s₁.heap.get? b = some o → s'.heap.get? b = some o := by
      intro b o nb e
      cases q : H b with
      | none => exact un.keep b o e q (by intro z; exact absurd (show b ∈ ([] : List Addr) from z) (by simp)) (by simp)
      | some u =>
        rcases S.only b u q with z | ⟨rfl, ob, xs, rfl⟩
        · exact absurd z nb
        · have q2 := un.frzs b ob _ q
          have e1 := (hok b _ q).1
          have e2 := (hok' b _ q2).1
          rw [e] at e1
          cases e1
          exact e2
    have more : ∀ b ∈ cs.map (fun p => p.2), ∃ m : Array Value, s'.heap.get? b = some { cls := .none, data := .fields m } := by
      intro b h
      obtain ⟨m, z⟩ := un.tbls b #[] (S.tbl b h)
      exact ⟨_, hok' b _ z⟩
    refine ⟨rfl, ⟨fun b o e => ?_, fun b o e => ?_⟩, os, bare⟩
    · by_cases h : b ∈ cs.map (fun p => p.2)
      · obtain ⟨m, z⟩ := more b h
        obtain ⟨p, hp, rfl⟩ := List.mem_map.mp h
        rw [hT p hp] at e
        cases e
        exact .inr (.inl ⟨((hC p hp).tab (hT p hp)).isCodeTable, rfl, #[], m, rfl, by rw [Array.empty_append]; exact z⟩)
      · exact .inl (same b o h e)
    · by_cases h : b ∈ cs.map (fun p => p.2)
      · obtain ⟨m, z⟩ := more b h
        exact ⟨_, z⟩
      · exact ⟨o, same b o h e⟩
theorem law_callGT (KX : K.In s₁.heap) (hns : s₁.heap.Ns mainGlobals mg) (hb : s₁.heap.Ns builtinsNs mb) (hbb : ∀ x : Str, x ≠ "__name__" → mb x = bootBuiltins x) (hlim : s₁.heap.NoLimit) (hg : s₁.gens = #[])
    (hT : ∀ p ∈ cs, s₁.heap.get? p.2 = some { cls := .none, data := .fields #[] }) (nT : ∀ p ∈ cs, K.lookup p.2 = none) (hC : ∀ p ∈ cs, PySem.W.CodeHd s₁.heap p.1 p.2)
    (hbm : ∃ (bm : Addr) (ob : Obj), mg "__builtins__" = some (.ref bm) ∧ bm ≠ builtinsNs ∧ s₁.heap.get? bm = some ob ∧ ob.cls = .type "module" ∧ ob.dict = some builtinsNs ∧ ob.data = .plain)
    (ha : s₁.heap.get? a = some { cls := .type "list", data := .seq vs.toArray }) (hi : IntsAre vs ns) (hl : ns.length ≤ sizeLine) (hr : Room k callerA)
    (F : ∀ base : Heap, K.In base → base.Ns mainGlobals mg → (∀ p ∈ cs, GxR.TabB base mg p.1 p.2) → FnG P w K mg base k fa fd [x] sp) (hbind : ∀ (s : Shared) (u : Value), BindsTo s fd ⟨[u], []⟩ [(x, u)])
    (hsp : ∀ H : Hp, (∀ p ∈ cs, H p.2 = some (.tbl #[])) → SqL K H a (ns.map V.int) → sp [.ref a] H (fun v _ => v = .bl true) E0) :
    codeAny (model P w) callerA (.call (.ref fa) ⟨[.ref a], []⟩) (fun r s' => r = .ok (.ret (.bool true)) ∧ PySem.OldK s₁.heap s'.heap ∧ s'.os = s₁.os ∧ AllBare s'.gens) s₁ := by
  have rv := vals_ints hi
  have atT : ∀ b ∈ cs.map (fun p => p.2), s₁.heap.get? b = some { cls := .none, data := .fields #[] } := by
    intro b h
    obtain ⟨p, hp, rfl⟩ := List.mem_map.mp h
    exact hT p hp
  have nK : ∀ b ∈ cs.map (fun p => p.2), K.lookup b = none := by
    intro b h
    obtain ⟨p, hp, rfl⟩ := List.mem_map.mp h
    exact nT p hp
  have na : a ∉ cs.map (fun p => p.2) := fun z => by
    have q := atT a z
    rw [ha] at q
    cases q
  have inT : ∀ p ∈ cs, p.2 ∈ cs.map (fun p => p.2) := fun p hp => List.mem_map.mpr ⟨p, hp, rfl⟩
  cases hk : K.lookup a with
  | some o =>
    have e := KX a o hk
    rw [ha] at e
    cases e
    have known : SqL K (trackT cs fun _ => none) a (ns.map V.int) := .inr ⟨_, vs.toArray, _, hk, rfl, rfl, rfl, by rw [List.size_toArray, hi.length]; exact hl, by simpa using rv⟩
    refine go_lawT (H := trackT cs fun _ => none) ⟨known, fun b h => trackT_in h, fun b u z => ?_, fun b o z => ?_⟩ (fun b u z => ?_) KX hns hb hbb hlim hg hT hC hbm ha hr F hbind (hsp _ (fun p hp => trackT_in (inT p hp)) known)
    · by_cases h : b ∈ cs.map (fun p => p.2)
      · exact .inl h
      · rw [trackT_out h] at z
        cases z
    · exact trackT_out fun h => by rw [nK b h] at z; cases z
    · by_cases h : b ∈ cs.map (fun p => p.2)
      · rw [trackT_in h] at z
        cases z
        exact atT b h
      · rw [trackT_out h] at z
        cases z
  | none =>
    have at_a : trackT cs (track a vs ns) a = some (.frz { cls := .type "list", data := .seq vs.toArray } (.lst (ns.map V.int))) := (trackT_out na).trans track_at
    have known : SqL K (trackT cs (track a vs ns)) a (ns.map V.int) := .inl (.inr ⟨_, at_a⟩)
    refine go_lawT (H := trackT cs (track a vs ns)) ⟨known, fun b h => trackT_in h, fun b u z => ?_, fun b o z => ?_⟩ (fun b u z => ?_) KX hns hb hbb hlim hg hT hC hbm ha hr F hbind (hsp _ (fun p hp => trackT_in (inT p hp)) known)
    · by_cases h : b ∈ cs.map (fun p => p.2)
      · exact .inl h
      · rw [trackT_out h] at z
        by_cases h2 : b = a
        · subst h2
          rw [track_at] at z
          cases z
          exact .inr ⟨rfl, _, _, rfl⟩
        · rw [track_ne h2] at z
          cases z
    · refine (trackT_out fun h => ?_).trans (track_ne ?_)
      · rw [nK b h] at z
        cases z
      · rintro rfl
        rw [hk] at z
        cases z
    · by_cases h : b ∈ cs.map (fun p => p.2)
      · rw [trackT_in h] at z
        cases z
        exact atT b h
      · rw [trackT_out h] at z
        by_cases h2 : b = a
        · subst h2
          rw [track_at] at z
          cases z
          exact ⟨ha, by rw [List.length_map]; exact hl, vs, _, rv, ha⟩
        · rw [track_ne h2] at z
          cases z
end
/-- the table of code objects of the def y, as the top leaves it: empty -/
def TabE (K : PySem.W.Frag) (y : Str) (mg : Str → Option Value) (h : Heap) : Prop := ∀ (f c T : Addr) (o : Obj) (fd : FuncData) (e : Value) (dd : Option Addr) (us : Array Value) (sl : Array (Option Value)),
  mg y = some (.ref f) → K.lookup f = some o → o.data = .func fd → fd.code = .ref c → K.lookup c = some ⟨e, dd, .fields us, sl⟩ → us[11]? = some (.ref T) → h.get? T = some { cls := .none, data := .fields #[] }
theorem walk_ofGT {l : PySem.W.OpenLaw} {n k : Nat} {q : Program} {loose : List Str} {XP : (Str → Option Value) → Heap → Prop} {YP : World → Heap → Prop} {d : DefRec} {K : Params → PySem.W.Frag} {sp : World → Sp} {x y : Str}
    (hn : l.most = some n) (hn2 : n ≤ sizeLine) (hdf : d.params.defaults = []) (hr : Room k callerA) (hrec : ((recsOf q).any fun e => e.name == y) = true) (hY : ∀ (w : World) (h : Heap), YP w h → (K w.params).In h)
    (F : ∀ (w : World) (mg : Str → Option Value) (fa : Addr) (h : Heap), (K w.params).In h → h.Ns mainGlobals mg → mg d.name = some (.ref fa) → TabE (K w.params) y mg h →
      ∃ (fd : FuncData) (cs : List (Addr × Addr)), (∀ p ∈ cs, h.get? p.2 = some { cls := .none, data := .fields #[] }) ∧ (∀ p ∈ cs, (K w.params).lookup p.2 = none) ∧ (∀ p ∈ cs, PySem.W.CodeHd h p.1 p.2) ∧ (∀ (s : Shared) (u : Value), BindsTo s fd ⟨[u], []⟩ [(x, u)]) ∧
        (∀ (H : Hp) (a : Addr) (ns : List Int), ns.length ≤ n → (∀ p ∈ cs, H p.2 = some (.tbl #[])) → SqL (K w.params) H a (ns.map V.int) → sp w [.ref a] H (fun v _ => v = .bl true) E0) ∧
        ∀ base : Heap, (K w.params).In base → base.Ns mainGlobals mg → (∀ p ∈ cs, GxR.TabB base mg p.1 p.2) → FnG l.prog w (K w.params) mg base k fa fd [x] (sp w)) :
    PySem.W.WalkO q loose XP YP l.row.toRowW d [] (fun f vs => PySem.call f vs) := by
  apply Att.attach_call hn hdf
  intro w s₀ s₁ mg mb fa o pm cd doc a vs ns G Y _ _ _ hmg hobj hints hlen hg
  have KX := hY w _ Y
  have empty : TabE (K w.params) y mg s₁.heap := by
    intro f c T o1 fd1 e dd us sl k0 k1 k2 k3 k4 k5
    obtain ⟨dL, mem, nm⟩ := List.any_eq_true.mp hrec
    obtain ⟨a2, o2, fd2, c2, T2, h1, h2, h3, h4, _, ⟨oc, vc, t1, _, t3, t4⟩, hT⟩ := G.T.tab dL mem
    rw [beq_iff_eq.mp nm, k0] at h1
    cases h1
    rw [KX _ _ k1] at h2
    cases h2
    rw [k2] at h3
    cases h3
    rw [k3] at h4
    cases h4
    rw [KX _ _ k4] at t1
    cases t1
    cases t3
    rw [k5] at t4
    cases t4
    exact hT
  obtain ⟨fd, cs, hT, nT, hC, hb, hsp, hF⟩ := F w mg fa _ KX G.T.g hmg empty
  exact law_callGT KX G.T.g G.T.b G.T.builtins G.T.nolimit hg hT nT hC G.T.bmain hobj hints (Nat.le_trans hlen hn2) hr hF hb fun H hH hS => hsp H a ns hlen hH hS
theorem walk_ofGK {l : PySem.W.OpenLaw} {n k : Nat} {q : Program} {loose : List Str} {XP : (Str → Option Value) → Heap → Prop} {YP : World → Heap → Prop} {d : DefRec} {K : Params → PySem.W.Frag} {sp : PySem.W.Frag → Addr → Sp} {PA : Addr} {x y : Str}
    (hn : l.most = some n) (hn2 : n ≤ sizeLine) (hdf : d.params.defaults = []) (hr : Room k callerA) (hrec : ((recsOf q).any fun e => e.name == y) = true) (hY : ∀ (w : World) (h : Heap), YP w h → (K w.params).In h)
    (F : ∀ (w : World) (mg : Str → Option Value) (fa : Addr) (h : Heap), (K w.params).In h → h.Ns mainGlobals mg → mg d.name = some (.ref fa) → TabE (K w.params) y mg h →
      ∃ (fd : FuncData) (cs : List (Addr × Addr)), (∀ p ∈ cs, h.get? p.2 = some { cls := .none, data := .fields #[] }) ∧ (∀ p ∈ cs, (K w.params).lookup p.2 = none) ∧ (∀ p ∈ cs, PySem.W.CodeHd h p.1 p.2) ∧ (∀ (s : Shared) (u : Value), BindsTo s fd ⟨[u], []⟩ [(x, u)]) ∧
        (∀ (H : Hp) (a : Addr) (ns : List Int), ns.length ≤ n → (∀ p ∈ cs, H p.2 = some (.tbl #[])) → SqL (K w.params) H a (ns.map V.int) → sp (K w.params) PA [.ref a] H (fun v _ => v = .bl true) E0) ∧
        ∀ base : Heap, (K w.params).In base → base.Ns mainGlobals mg → (∀ p ∈ cs, GxR.TabB base mg p.1 p.2) → FnG l.prog w (K w.params) mg base k fa fd [x] (sp (K w.params) PA)) :
    PySem.W.WalkO q loose XP YP l.row.toRowW d [] (fun f vs => PySem.call f vs) :=
  walk_ofGT (sp := fun w => sp (K w.params) PA) hn hn2 hdf hr hrec hY F
theorem walk_ofGL {l : PySem.W.OpenLaw} {n k : Nat} {q : Program} {loose : List Str} {XP : (Str → Option Value) → Heap → Prop} {YP : World → Heap → Prop} {d : DefRec} {K : Params → PySem.W.Frag} {sp : PySem.W.Frag → List Addr → Sp} {PA : List Addr} {x : Str} {ys : List Str}
    (hn : l.most = some n) (hn2 : n ≤ sizeLine) (hdf : d.params.defaults = []) (hr : Room k callerA) (hrec : (ys.all fun y => (recsOf q).any fun e => e.name == y) = true) (hY : ∀ (w : World) (h : Heap), YP w h → (K w.params).In h)
    (F : ∀ (w : World) (mg : Str → Option Value) (fa : Addr) (h : Heap), (K w.params).In h → h.Ns mainGlobals mg → mg d.name = some (.ref fa) → (∀ y ∈ ys, TabE (K w.params) y mg h) →
      ∃ (fd : FuncData) (cs : List (Addr × Addr)), (∀ p ∈ cs, h.get? p.2 = some { cls := .none, data := .fields #[] }) ∧ (∀ p ∈ cs, (K w.params).lookup p.2 = none) ∧ (∀ p ∈ cs, PySem.W.CodeHd h p.1 p.2) ∧ (∀ (s : Shared) (u : Value), BindsTo s fd ⟨[u], []⟩ [(x, u)]) ∧
        (∀ (H : Hp) (a : Addr) (ns : List Int), ns.length ≤ n → (∀ p ∈ cs, H p.2 = some (.tbl #[])) → SqL (K w.params) H a (ns.map V.int) → sp (K w.params) PA [.ref a] H (fun v _ => v = .bl true) E0) ∧
        ∀ base : Heap, (K w.params).In base → base.Ns mainGlobals mg → (∀ p ∈ cs, GxR.TabB base mg p.1 p.2) → FnG l.prog w (K w.params) mg base k fa fd [x] (sp (K w.params) PA)) :
    PySem.W.WalkO q loose XP YP l.row.toRowW d [] (fun f vs => PySem.call f vs) := by
  apply Att.attach_call hn hdf
  intro w s₀ s₁ mg mb fa o pm cd doc a vs ns G Y _ _ _ hmg hobj hints hlen hg
  have KX := hY w _ Y
  have empty : ∀ y ∈ ys, TabE (K w.params) y mg s₁.heap := by
    intro y hy f c T o1 fd1 e dd us sl k0 k1 k2 k3 k4 k5
    obtain ⟨dL, mem, nm⟩ := List.any_eq_true.mp (List.all_eq_true.mp hrec y hy)
    obtain ⟨a2, o2, fd2, c2, T2, h1, h2, h3, h4, _, ⟨oc, vc, t1, _, t3, t4⟩, hT⟩ := G.T.tab dL mem
    rw [beq_iff_eq.mp nm, k0] at h1
    cases h1
    rw [KX _ _ k1] at h2
    cases h2
    rw [k2] at h3
    cases h3
    rw [k3] at h4
    cases h4
    rw [KX _ _ k4] at t1
    cases t1
    cases t3
    rw [k5] at t4
    cases t4
    exact hT
  obtain ⟨fd, cs, hT, nT, hC, hb, hsp, hF⟩ := F w mg fa _ KX G.T.g hmg empty
  exact law_callGT KX G.T.g G.T.b G.T.builtins G.T.nolimit hg hT nT hC G.T.bmain hobj hints (Nat.le_trans hlen hn2) hr hF hb fun H hH hS => hsp H a ns hlen hH hS
end Jf
set_option Elab.async false
set_option linter.all false
set_option maxRecDepth 100000
set_option maxHeartbeats 4000000
namespace Jf
open PySem PySem.Spec PyProof.Rows L2 Evl
/-! ### sum of a generator over a list of pairs of ints, with one captured int -/
/-- the generator's own scope: two names, one captured -/
structure GenT (scope : Scope) (xa xb xc : Str) : Prop where
  kind : scope.kind = .function
  co : scope.isCoroutine = false
  cell : ∀ y ∈ scope.names, y.2 ≠ .cell
  dot : scope.names.lookup (".0" : Str) = some NameKind.local
  la : scope.names.lookup xa = some .local
  lb : scope.names.lookup xb = some .local
  lc : scope.names.lookup xc = some .free
  ne : xa ≠ xb
  only : ∀ y ∈ scope.names, y.2 = .free → y.1 = xc
  clo : ∀ cells : List (Str × Addr), (cloFrom cells scope.names []).lookup xc = some ((cells.lookup xc).getD 0)
/-- the element: an int of the two and the captured one -/
def EltT (prog : Program) (w : World) (scope : Scope) (xa xb xc : Str) (elt : Expr) (ok : Int → Int → Int → Prop) (g : Int → Int → Int → Int) : Prop :=
  ∀ (cenv : Env) (B : Around) (E : Value → Shared → Prop) (a b d : Int) (ta tb td : Tok) (c : Addr) (s : Shared) (m : Str → Option Value), cenv.scope = scope → ok a b d → s.heap.Ns cenv.locals m → m xa = some (.int a ta) → m xb = some (.int b tb) →
    cenv.cells.lookup xc = some c → s.heap.IsCell c (some (.int d td)) → wpAny (model prog w) B (eval elt cenv) (fun y s1 => (∃ t, y = .int (g a b d) t) ∧ Keeps s s1) E s
abbrev Prs := List (Addr × Int × Int)
def valP (ps : Prs) (d : Int) (g : Int → Int → Int → Int) (j : Nat) : Int := match ps[j]? with
  | some p => g p.2.1 p.2.2 d
  | none => 0
theorem valP_some {ps : Prs} {d : Int} {g : Int → Int → Int → Int} {j : Nat} {p : Addr × Int × Int} (h : ps[j]? = some p) : valP ps d g j = g p.2.1 p.2.2 d := by
  unfold valP
  rw [h]
def sumP (ps : Prs) (d : Int) (g : Int → Int → Int → Int) : Int := (ps.map fun p => g p.2.1 p.2.2 d).sum
theorem preSum_sumP (ps : Prs) (d : Int) (g : Int → Int → Int → Int) : preSum (valP ps d g) ps.length = sumP ps d g := by
  have step : ∀ n, n ≤ ps.length → preSum (valP ps d g) n = sumP (ps.take n) d g := by
    intro n
    induction n with
    | zero => intro _; rfl
    | succ n ih =>
      intro h
      have hn : n < ps.length := h
      have e := List.getElem?_eq_getElem hn
      show preSum (valP ps d g) n + valP ps d g n = _
      rw [ih (Nat.le_of_lt hn), valP_some e, List.take_succ, e]
      unfold sumP
      simp only [Option.toList_some, List.map_append, List.sum_append, List.map_cons, List.map_nil, List.sum_cons, List.sum_nil, Int.add_zero]
  rw [step _ (Nat.le_refl _), List.take_length]
section
variable {X : Cx} {pins : List (Addr × Obj)} {σ : L2.St} {H : Hp} {s : Shared}
/-- the generator's code: found in the def's table, or put there -/
theorem gcode {env : Env} {scope : Scope} {gpos : Pos} {nm : Str} {c P : Addr} {tb : Array Value} {s2 : Shared} {prog : Program} {w : World} {A : Around} {E : Value → Shared → Prop} {Ψ : Value → Shared → Prop} (hcode : env.code = .ref c)
    (cd : PySem.W.CodeHd s2.heap c P) (hP : s2.heap.get? P = some { cls := .none, data := .fields tb }) (ht : TriplesOk tb.toList)
    (rest : ∀ (code : Value) (h3 : Heap) (n3 : Nat) (tb3 : Array Value), Heap.ExtBut P s2.heap h3 → s2.heap.objs.size ≤ h3.objs.size → h3.get? P = some { cls := .none, data := .fields tb3 } → (∃ more, tb3 = tb ++ more) → TriplesOk tb3.toList → Ψ code { s2 with heap := h3, toks := n3 }) :
    wpAny (model prog w) A (genexprCode env gpos nm scope) Ψ E s2 := by
  cases found : codeAmong gpos tb.toList with
  | some cv =>
    apply wpAny_genexprCode_hit hcode (cd.code hP ht) found
    exact rest cv s2.heap s2.toks tb (Heap.ExtBut.refl _ _) (Nat.le_refl _) hP ⟨#[], by simp⟩ ht
  | none =>
    apply wpAny_genexprCodeX hcode (cd.code hP ht) (cd.tab hP) found
    intro c' h' n' hx ge lt co _ tab _
    obtain ⟨_, _, _, _, _, _, _, _, _, _, _, _, _, _, _, _, _, _, _, tr, _⟩ := co
    exact rest _ h' n' _ hx (Nat.le_trans ge (Nat.le_of_lt lt)) tab.2 ⟨_, rfl⟩ tr
/-- ready to be walked -/
def ReadyP (X : Cx) (pins : List (Addr × Obj)) (σ : L2.St) (H1 : Hp) (P : Addr) (ps : Prs) (d : Int) (g : Int → Int → Int → Int) (a : Addr) (s5 : Shared) : Prop :=
  ∃ (fp wr : List Addr) (G : Array GenState → Array GenState → Prop) (F : Nat → Value → Prop) (St : Nat → Shared → Prop),
    WalksS X.prog X.w X.A.in1 a fp wr G ps.length F St ∧ St 0 s5 ∧ (∀ b ∈ fp, b < s5.heap.objs.size) ∧ (∀ j v, F j v → ∃ t, v = .int (valP ps d g j) t) ∧ ∀ s', Moved wr G s5 s' → ∃ H2, GxR.Tabbed P H1 H2 ∧ Inv X pins σ H2 s'
/-- what the walked list holds -/
def PrsAt (K : PySem.W.Frag) (H : Hp) (yl : Addr) (ps : Prs) : Prop := SqL K H yl (ps.map fun p => V.ref p.1) ∧ ∀ p ∈ ps, SqT K H p.1 [.int p.2.1, .int p.2.2]
theorem gen_prs {c P : Addr} {elt iter : Expr} {xa xb xc : Str} {pa pb pt gpos : Pos} {kt ic k : Nat} {scope : Scope} {ok : Int → Int → Int → Prop} {g : Int → Int → Int → Int} {te : TE} {Q' : Value → Shared → Prop} {R : Prs → Int → Hp → Prop}
    (hr : Room k X.A) (TB : GxR.TabB X.base X.mg c P) (hcode : X.env.code = .ref c) (S : GenT scope xa xb xc) (hN : X.N[ic]? = some xc) (hk : X.env.kindOf xc = some .cell) (hi : PE X iter te) (hel : EltT X.prog X.w scope xa xb xc elt ok g)
    (hs : ∀ v, genFold iter X.env v = pure v) (I : Inv X pins σ H s)
    (h : te σ H fun v H1 => ∃ (yl : Addr) (ps : Prs) (d : Int), v = .ref yl ∧ PrsAt X.K H1 yl ps ∧ (∀ p ∈ ps, ok p.2.1 p.2.2 d) ∧ σ[ic]? = some (some (.int d)) ∧ GxR.TabG H1 P ∧ R ps d H1)
    (hQ : ∀ ps d H1 a s5, R ps d H1 → ReadyP X pins σ H1 P ps d g a s5 → Q' (.ref a) s5) :
    wpAny (model X.prog X.w) X.A (eval (.GeneratorExp elt [⟨.Tuple [.Name xa pa, .Name xb pb] kt pt, iter, [], 0⟩] scope gpos) X.env) Q' X.xe s := by
  obtain ⟨cc, hcc⟩ := I.ok.has xc (.inl hk)
  have hfree : ∀ y ∈ scope.names, y.2 = .free → ∃ c, X.env.cells.lookup y.1 = some c := fun y hy hf => ⟨cc, by rw [S.only y hy hf]; exact hcc⟩
  have hclo : (cloFrom X.env.cells scope.names []).lookup xc = some cc := by rw [S.clo, hcc]; rfl
  apply wpAny_GeneratorExp_walksQT hr.hd S.co (closure_ok hfree) S.cell S.dot S.la S.lb S.ne S.kind (by have := hr.dp; omega) (hs := hs)
  apply thn (hi.run pins s σ H _ I h)
  rintro xv s1 ⟨v, H1, I1, r1, yl, ps, d, rfl, ⟨hyl, hT⟩, hok, hd, ⟨tb, hP, ht⟩, q1⟩
  obtain rfl : xv = Value.ref yl := r1
  obtain ⟨its, rv, pl, hz⟩ := I1.list hyl
  have lst := pl.isList
  have nits : its.length = ps.length := by rw [← rv.length, List.length_map]
  have iat : ∀ (j : Nat) (p : Addr × Int × Int), ps[j]? = some p → its[j]? = some (Value.ref p.1) := by
    intro j p hp
    have e : (ps.map fun (p : Addr × Int × Int) => V.ref p.1)[j]? = some (V.ref p.1) := by rw [List.getElem?_map, hp]; rfl
    obtain ⟨u, hu, ru⟩ := rv.get e
    cases (show u = Value.ref p.1 from ru)
    exact hu
  have tup : ∀ j : Nat, ∃ uv : Tok × Tok, ∀ p : Addr × Int × Int, ps[j]? = some p → s1.heap.IsTuple p.1 #[.int p.2.1 uv.1, .int p.2.2 uv.2] := by
    intro j
    cases hj : ps[j]? with
    | none => exact ⟨(0, 0), fun p z => nomatch z⟩
    | some p =>
      obtain ⟨ts, tv, ⟨o, e1, e2, n, e3⟩, _⟩ := I1.tuple (hT p (List.mem_of_getElem? hj))
      cases tv with
      | cons ra rb =>
        cases rb with
        | cons rb rc =>
          cases rc
          obtain ⟨u, rfl⟩ := _root_.id ra
          obtain ⟨v, rfl⟩ := _root_.id rb
          refine ⟨(u, v), fun q z => ?_⟩
          cases z
          exact ⟨o, e1, e2, n, e3⟩
  obtain ⟨tk, htk⟩ := Classical.skolem.mp tup
  obtain ⟨uc, td, huc⟩ : ∃ (uc : Value) (td : Tok), uc = .int d td ∧ s1.heap.IsCell cc (some uc) := by
    obtain ⟨m, _, hm⟩ := I1.loc
    obtain ⟨u, ru, lk⟩ := hm ic xc (.int d) hN hd (.inr (.inl hk))
    obtain ⟨td, rfl⟩ := _root_.id ru
    rcases lk with ⟨z, _⟩ | ⟨_, c2, e2, hc2⟩
    · rw [hk] at z
      cases z
    · rw [hcc] at e2
      cases e2
      exact ⟨_, td, rfl, hc2⟩
  obtain ⟨rfl, hcell⟩ := huc
  let Ts : Nat → Addr := fun j => ((ps[j]?).map fun (p : Addr × Int × Int) => p.1).getD 0
  let vs : Nat → Array Value := fun j => ((ps[j]?).map fun (p : Addr × Int × Int) => (#[.int p.2.1 (tk j).1, .int p.2.2 (tk j).2] : Array Value)).getD #[.none, .none]
  have pat : ∀ j, j < its.toArray.size → ∃ p : Addr × Int × Int, ps[j]? = some p := fun j hj => by
    have : j < ps.length := by simpa [nits] using hj
    exact ⟨ps[j], List.getElem?_eq_getElem this⟩
  have tsT : ∀ j, j < its.toArray.size → s1.heap.IsTuple (Ts j) (vs j) := fun j hj => by
    obtain ⟨p, e⟩ := pat j hj
    have := htk j p e
    simpa only [Ts, vs, e, Option.map_some, Option.getD_some] using this
  have tlt : ∀ j, j < its.toArray.size → Ts j < s1.heap.objs.size := fun j hj => by
    obtain ⟨_, e, _⟩ := tsT j hj
    exact Heap.lt_size e
  have hit : ∀ j, j < its.toArray.size → its.toArray[j]? = some (.ref (Ts j)) := fun j hj => by
    obtain ⟨p, e⟩ := pat j hj
    have := iat j p e
    simpa only [Ts, e, Option.map_some, Option.getD_some, List.getElem?_toArray] using this
  have ylt : yl < s1.heap.objs.size := by
    obtain ⟨_, e, _⟩ := _root_.id lst
    exact Heap.lt_size e
  have WW := fun (B : Around) (hB : B.handled = none) => (WalksU.listOfTuples (prog := X.prog) (w := X.w) hB s1.heap.objs.size yl (Nat.ne_of_lt ylt) its.toArray Ts vs hit fun j hj => Nat.ne_of_lt (tlt j hj)).bound
  apply wpAny_pyIter_list lst
  generalize ho : ({ cls := .type "list_iterator", data := .fields #[.ref yl, .int 0 0] } : Obj) = it0
  have iter0 : (s1.heap.push it0).IsListIter s1.heap.objs.size yl 0 := by
    subst ho
    exact ⟨_, Heap.get?_push_size _ rfl, rfl, rfl⟩
  have old : ∀ b u, s1.heap.get? b = some u → (s1.heap.push it0).get? b = some u := fun b u e => Heap.get?_push_of_some _ e
  have tabS : s1.heap.get? P = some { cls := .none, data := .fields tb } := I1.hok P _ hP
  have Plt : P < s1.heap.objs.size := Heap.lt_size tabS
  have lim2 : (s1.heap.push it0).NoLimit := I1.nolimit.push it0
  refine ⟨lim2, ?_⟩
  refine gcode (s2 := { s1 with heap := s1.heap.push it0 }) hcode (TB.code.keeps fun b u e => old b u (I1.bk b u e)) (old _ _ tabS) ht fun code h3 n3 tb3 hx hsz hP3 hmore ht3 => ?_
  obtain ⟨bm, ob, e1, e2, e3, e4, e5, e6, e7, e8⟩ := TB.bm
  have keep3 : ∀ b u, b ≠ P → s1.heap.get? b = some u → h3.get? b = some u := fun b u hb e => hx b u hb (old b u e)
  have sz3 : s1.heap.objs.size < h3.objs.size := by
    have e : (s1.heap.push it0).objs.size = s1.heap.objs.size + 1 := Heap.size_push ..
    have hsz' : (s1.heap.push it0).objs.size ≤ h3.objs.size := hsz
    omega
  have cP : cStatics ≠ P := fun e => by
    obtain ⟨_, hns, _⟩ := I1.nolimit
    obtain ⟨o', es, ep, ho', hd', _⟩ := hns
    rw [e, tabS] at ho'
    cases ho'
    cases hd'
  have clt : cStatics < s1.heap.objs.size := by
    obtain ⟨_, hns, _⟩ := I1.nolimit
    exact hns.lt
  apply wpAny_builtinsFor (m := X.mg) (by rw [I1.ok.glob]; exact ((I1.mod.glob.keeps I1.bk).push it0).extBut hx TB.gP) e1 e2 (keep3 _ _ e4 (I1.bk _ _ e5)) e6 e7 e8
  have yP : yl ≠ P := fun z => by
    obtain ⟨_, e, hc1, _, hd1⟩ := _root_.id lst
    rw [z, tabS] at e
    cases e
    cases hd1
  have tP : ∀ j, j < its.toArray.size → Ts j ≠ P := fun j hj z => by
    obtain ⟨_, e, hc1, _⟩ := tsT j hj
    rw [z, tabS] at e
    cases e
    cases hc1
  have ccP : cc ≠ P := fun z => by
    obtain ⟨o, e, hc1⟩ := _root_.id hcell
    rw [z, tabS] at e
    cases e
    cases hc1
  have cclt : cc < s1.heap.objs.size := by
    obtain ⟨o, e, _⟩ := _root_.id hcell
    exact Heap.lt_size e
  have lst3 : h3.IsList yl its.toArray := by
    obtain ⟨ob, e, r⟩ := _root_.id lst
    exact ⟨ob, keep3 _ _ yP e, r⟩
  have iter3 : h3.IsListIter s1.heap.objs.size yl 0 := iter0.at fun u e => hx _ u (Nat.ne_of_gt Plt) e
  have ts3 : ∀ j, j < its.toArray.size → h3.IsTuple (Ts j) (vs j) := fun j hj => (tsT j hj).at fun o e => keep3 _ _ (tP j hj) e
  have cell3 : h3.IsCell cc (some (.int d td)) := by
    obtain ⟨o, e, r⟩ := _root_.id hcell
    exact ⟨o, keep3 _ _ ccP e, r⟩
  refine ⟨s1.heap.objs.size, _, _, _, _, _, _, (fun _ => true), (fun i y => ∃ (p : Addr × Int × Int) (t : Tok), ps[i]? = some p ∧ y = .int (g p.2.1 p.2.2 d) t), rfl, WW, ?_, ⟨iter3, lst3, ts3⟩, ?_, lim2.extBut hx cP, ?_, ?_, ?_⟩
  · rintro i v ⟨hi, rfl⟩
    obtain ⟨p, e⟩ := pat i hi
    exact ⟨.int p.2.1 (tk i).1, .int p.2.2 (tk i).2, by simp only [vs, e, Option.map_some, Option.getD_some]⟩
  · intro b hb
    show b < h3.objs.size
    rcases List.mem_cons.mp hb with rfl | hb
    · exact sz3
    · rcases List.mem_cons.mp hb with rfl | hb
      · exact Nat.lt_trans ylt sz3
      · obtain ⟨j, hj, rfl⟩ := List.mem_map.mp hb
        exact Nat.lt_trans (tlt j (List.mem_range.mp hj)) sz3
  · intro z
    rcases List.mem_cons.mp z with z | z
    · exact Nat.ne_of_lt clt z
    · cases z
  · intro href hhref
    refine ⟨fun B E' i va vb s₂ m₂ hB hPv hn ha hb hk => ?_, fun B E' i va vb s₂ m₂ hB hPv hp hn ha hb hk => ?_⟩
    · simp only [List.forIn_nil]
      exact wpAny_pure ⟨rfl, GxR.keeps_refl _⟩
    · obtain ⟨hi, ev⟩ := hPv
      obtain ⟨p, e⟩ := pat i hi
      simp only [vs, e, Option.map_some, Option.getD_some] at ev
      obtain ⟨rfl, rfl⟩ : va = .int p.2.1 (tk i).1 ∧ vb = .int p.2.2 (tk i).2 := by simpa using congrArg Array.toList ev
      have c2 : s₂.heap.IsCell cc (some (.int d td)) := by
        obtain ⟨o, e9, r⟩ := _root_.id cell3
        refine ⟨o, hk cc ?_ ?_ o (hhref _ _ e9), r⟩
        · exact List.mem_range.mpr (Nat.lt_trans cclt sz3)
        · intro z
          rcases List.mem_cons.mp z with z | z
          · exact Nat.ne_of_lt cclt z
          · cases z
      exact wpAny_mono (hel _ B E' p.2.1 p.2.2 d _ _ td cc s₂ m₂ rfl (hok p (List.mem_of_getElem? e)) hn ha hb hclo c2) (fun y s3 r => ⟨⟨p, r.1.choose, e, r.1.choose_spec⟩, r.2⟩) fun _ _ e => e
  · intro a h5 n5 gs bare gt hsz5 hk5 W5 at5
    simp only [GxR.passing_true, List.length_range] at W5
    have nI : its.toArray.size = ps.length := by rw [List.size_toArray, nits]
    rw [nI] at W5 at5
    refine hQ ps d H1 a _ q1 ⟨_, _, _, _, _, W5.in4_1, at5, ?_, fun j v hv => ?_, fun s' mv => ?_⟩
    · intro b hb
      show b < h5.objs.size
      have e5 : h5.objs.size = a + 1 := hsz5
      have e3 : h3.objs.size < a := gt
      rw [e5]
      rcases List.mem_cons.mp hb with rfl | hb
      · exact Nat.lt_succ_self _
      · rcases List.mem_cons.mp hb with rfl | hb
        · exact Nat.lt_succ_of_lt e3
        · exact Nat.lt_succ_of_lt (Nat.lt_trans (show b < h3.objs.size from List.mem_range.mp hb) e3)
    · obtain ⟨i, hij, p, t, e, rfl⟩ := hv
      obtain ⟨hj, ej⟩ := List.getElem?_eq_some_iff.mp hij
      rw [List.getElem_range] at ej
      subst ej
      exact ⟨t, by rw [valP_some e]⟩
    · obtain ⟨more, em⟩ := hmore
      have apart : ∀ b u, s1.heap.get? b = some u → b ∉ h3.objs.size :: [s1.heap.objs.size] := by
        intro b u e hb
        have l := Heap.lt_size e
        rcases List.mem_cons.mp hb with z | z
        · rw [z] at l
          exact Nat.lt_asymm (show h3.objs.size < s1.heap.objs.size from l) sz3
        · rcases List.mem_cons.mp z with z | z
          · rw [z] at l
            exact Nat.lt_irrefl _ l
          · cases z
      have J := GxR.inv_tab (more := more) (h' := s'.heap) (g' := s'.gens) (d' := s'.drawn) (t' := s'.toks) I1 hP (fun b u hb e => mv.heap b u (apart b u e) (hk5 b u (keep3 b u hb e)))
        (by rw [← em]; exact mv.heap P _ (apart P _ tabS) (hk5 P _ hP3)) (AllBare.movedS (I1.bare.push bare) mv)
      rw [GxR.sh_eta s1 s' mv.os] at J
      exact ⟨_, ⟨⟨tb ++ more, upd_same, by rw [← em]; exact ht3⟩, fun b hb => upd_ne hb⟩, J⟩
/-- sum(elt for xa, xb in te); behind it the def's table may have grown -/
def tSumP (K : PySem.W.Frag) (P : Addr) (ok : Int → Int → Int → Prop) (g : Int → Int → Int → Int) (ic : Nat) (te : TE) : TE := fun σ H Q => te σ H fun v H1 =>
  ∃ (yl : Addr) (ps : Prs) (d : Int), v = .ref yl ∧ PrsAt K H1 yl ps ∧ (∀ p ∈ ps, ok p.2.1 p.2.2 d) ∧ σ[ic]? = some (some (.int d)) ∧ GxR.TabG H1 P ∧ ∀ H2, GxR.Tabbed P H1 H2 → Q (.int (sumP ps d g)) H2
theorem pe_sumP {c P : Addr} {elt iter : Expr} {xa xb xc : Str} {pa pb pt gpos p pos : Pos} {kt ic k : Nat} {scope : Scope} {ok : Int → Int → Int → Prop} {g : Int → Int → Int → Int} {te : TE}
    (hr : Room k X.A) (hg : Gl X "sum") (hm : X.mg "sum" = none) (TB : GxR.TabB X.base X.mg c P) (hcode : X.env.code = .ref c) (S : GenT scope xa xb xc) (hN : X.N[ic]? = some xc) (hk : X.env.kindOf xc = some .cell) (hi : PE X iter te) (hel : EltT X.prog X.w scope xa xb xc elt ok g)
    (hs : ∀ v, genFold iter X.env v = pure v) (hb : bootBuiltins "sum" = some (.builtin "sum") := by decide +kernel)
    (he : starEach [.GeneratorExp elt [⟨.Tuple [.Name xa pa, .Name xb pb] kt pt, iter, [], 0⟩] scope gpos] X.env = (false, eval (.GeneratorExp elt [⟨.Tuple [.Name xa pa, .Name xb pb] kt pt, iter, [], 0⟩] scope gpos) X.env) :: starEach [] X.env := by rfl) :
    PE X (.Call (.Name "sum" p) [.GeneratorExp elt [⟨.Tuple [.Name xa pa, .Name xb pb] kt pt, iter, [], 0⟩] scope gpos] [] pos) (tSumP X.K P ok g ic te) := by
  constructor
  intro pins s σ H Q I want
  apply wpAny_Call_Name_kw (ld_blt I hg hm hb ?_)
  apply PyProof.Rows.callWith_builtin1 ?_ he (by rfl)
  rw [he]
  show wpAny _ _ (spliced ((false, eval (.GeneratorExp elt [⟨.Tuple [.Name xa pa, .Name xb pb] kt pt, iter, [], 0⟩] scope gpos) X.env) :: backTo pos (starEach [] X.env))) _ _ s
  apply Calls.spliced_cons (gen_prs (R := fun ps d H1 => ∀ H2, GxR.Tabbed P H1 H2 → Q (.int (sumP ps d g)) H2) hr TB hcode S hN hk hi hel hs I want ?_)
  intro ps d H1 a s5 k5 ready
  obtain ⟨fp, wr, G, F, St, W, st0, below, vals, ends⟩ := ready
  apply Calls.spliced_nil
  apply call_sum_walkAnyS
  refine W.self 0 _ _ _ st0 ⟨a, fp, wr, G, _, F, St, valP ps d g, rfl, W, st0, below, vals, fun s' t' mv => ?_⟩
  obtain ⟨H2, tabbed, J⟩ := ends s' mv
  rw [preSum_sumP]
  exact ⟨.int _, H2, J, ⟨t', rfl⟩, k5 H2 tabbed⟩
end
/-! ### the element top * (bottom // below) -/
def okCut (a b d : Int) : Prop := CDivZ d b ∧ CMulW a (d.fdiv b)
def gCut (a b d : Int) : Int := a * d.fdiv b
theorem elt_cut {prog : Program} {w : World} {scope : Scope} {xa xb xc : Str} {p1 p2 p3 p4 p5 : Pos} (S : GenT scope xa xb xc) (da : (xa == ("__debug__" : Str)) = false := by decide) (db : (xb == ("__debug__" : Str)) = false := by decide) (dc : (xc == ("__debug__" : Str)) = false := by decide)
    (dk : (xc == ("__classdict__" : Str)) = false := by decide) :
    EltT prog w scope xa xb xc (.BinOp (.Name xa p1) .Mult (.BinOp (.Name xc p2) .FloorDiv (.Name xb p3) p4) p5) okCut gCut := by
  intro cenv B E a b d ta tb td c s m hs ho hn ha hb hc hcell
  have kf : cenv.scope.kind = .function := by rw [hs]; exact S.kind
  have la : cenv.kindOf xa = some .local := by show cenv.scope.names.lookup xa = _; rw [hs]; exact S.la
  have lb : cenv.kindOf xb = some .local := by show cenv.scope.names.lookup xb = _; rw [hs]; exact S.lb
  have lc : cenv.kindOf xc = some .free := by show cenv.scope.names.lookup xc = _; rw [hs]; exact S.lc
  apply wpAny_BinOp
  apply wpAny_Name (wpAny_loadName_local kf la hn ha ?_) da
  apply wpAny_BinOp
  apply wpAny_Name (wpAny_loadName_free kf lc hc hcell ?_ dk) dc
  apply wpAny_Name (wpAny_loadName_local kf lb hn hb ?_) db
  apply floordiv_int ho.1.1 ?_ (.inl (PyProof.noPylong_of_log2 ho.1.2))
  apply mul_int ?_ ho.2.ok
  exact ⟨⟨_, rfl⟩, GxR.keeps_tok _ _⟩
end Jf
set_option Elab.async false
set_option linter.all false
set_option maxRecDepth 100000
set_option maxHeartbeats 4000000
namespace Jf
open PySem PySem.Spec PyProof.Rows L2 Evl GxR GenW
/-! ### all(e for x in a tuple), e of any kind that the layer reads -/
/-- the inner scope: one name, nothing captured -/
structure OneN (scope : Scope) (x : Str) : Prop where
  kind : scope.kind = .function
  co : scope.isCoroutine = false
  cell : ∀ y ∈ scope.names, y.2 ≠ .cell
  dot : scope.names.lookup (".0" : Str) = some NameKind.local
  loc : scope.names.lookup x = some .local
  free : ∀ y ∈ scope.names, y.2 ≠ .free
  ne : (".0" : Str) ≠ x
/-- the inner context: the callers' frames behind it, the walked iterator free to turn -/
def gxOf (X : Cx) (x : Str) (s : Shared) (H : Hp) (cenv : Env) (B : Around) (I : Addr) : Cx where
  prog := X.prog
  w := X.w
  K := X.K
  mg := X.mg
  base := X.base
  A := B
  N := [".0", x]
  s_0 := s
  H_0 := H
  env := cenv
  outer := X.stack
  stack := cenv :: X.stack
  ex := [I]
  fn := fun _ => true
  calm := true
  pn := []
  xe := fun _ _ => False
/-- the reading: from the left, till one says no -/
def rdAll (te : TE) : List V → Hp → (Bool → Hp → Prop) → Prop
  | [], H, Q => Q true H
  | v :: vs, H, Q => te [none, some v] H fun r H' => ∃ b, r = .bl b ∧ (b = true → rdAll te vs H' Q) ∧ (b = false → Q false H')
section
variable {X : Cx}
/-- where the generator stands: its object, its iterator -/
def gPins (a I t : Addr) (go : Obj) (i : Nat) (io : Obj) : List (Addr × Obj) := [(a, go), (I, io)]
def GInv (Y : Cx) (a I t : Addr) (go : Obj) (i : Nat) (H : Hp) (s : Shared) : Prop :=
  ∃ (σ : L2.St) (io : Obj), σ.length = 2 ∧ σ[0]? = some none ∧ io.cls = .type "tuple_iterator" ∧ io.data = .fields #[.ref t, .int i 0] ∧ Inv Y [(a, go), (I, io)] σ H s
def gDone (Y : Cx) (Q : Bool → Hp → Prop) (_ : Nat) (_ s : Shared) : Prop := ∃ σ H, Inv Y [] σ H s ∧ Q true H
def gEnd (Y : Cx) (Q : Bool → Hp → Prop) : GenEnd := fun n s₀ r s => ((r = .ok (.ret .none) ∨ r = .ok .next) ∧ gDone Y Q n s₀ s) ∨ ∃ e, r = .error e ∧ False
def gProt (Y : Cx) (a I t : Addr) (go : Obj) (Q : Bool → Hp → Prop) : Protocol := fun _ _ v s kap =>
  ∃ b i H, v = .bool b ∧ GInv Y a I t go i H s ∧ (b = false → Q false H) ∧ (b = true → ∀ s', s'.os = s.os → AllBare s'.gens → s'.heap = s.heap → kap (.send .none) s')
theorem GInv.woke {Y : Cx} {a I t : Addr} {go : Obj} {i : Nat} {H : Hp} {s s' : Shared} (h : GInv Y a I t go i H s) (o : s'.os = s.os) (g : AllBare s'.gens) (e : s'.heap = s.heap) : GInv Y a I t go i H s' := by
  obtain ⟨σ, io, l, z, c, d, J⟩ := h
  refine ⟨σ, io, l, z, c, d, J.call' (ch := []) o ?_ ?_ g fun b z => by simp at z⟩
  · rw [e]
    exact Un.kept fun _ _ q => q
  · rw [e]
    exact J.hok
theorem Inv.sqt {Y : Cx} {pins : List (Addr × Obj)} {σ : L2.St} {H : Hp} {s : Shared} {t : Addr} {xs : List V} (J : Inv Y pins σ H s) (h : SqT Y.K Y.H_0 t xs) : SqT Y.K H t xs := by
  rcases h with (h | ⟨o, h⟩) | h
  · exact .inl (.inl (J.base.tups _ _ h))
  · exact .inl (.inr ⟨o, J.base.frzs _ _ _ h⟩)
  · exact .inr h
theorem GInv.turn {Y : Cx} {a I : Addr} {go io : Obj} {σ : L2.St} {H : Hp} {s : Shared} {h' : Heap} (J : Inv Y [(a, go), (I, io)] σ H s) (hex : I ∈ Y.ex) (haI : a ≠ I) (hpn : Y.pn = []) (hcl : Y.env.cells = [])
    (k : ∀ b o, b ≠ I → s.heap.get? b = some o → h'.get? b = some o) : Inv Y [(a, go)] σ H { s with heap := h' } := by
  have pI := J.pin (I, io) (List.mem_append_right _ (by simp))
  have J0 : Inv Y [(a, go)] σ H s := J.pins_of fun p hp => J.pin p (List.mem_append_right _ (by
    rw [List.mem_singleton.mp hp]
    simp))
  refine J0.turned (t' := s.toks) k pI.2.1 pI.2.2.1 (.inl hex) (fun y c e => ?_) fun p hp => ?_
  · rw [hcl] at e
    cases e
  · rw [hpn, List.nil_append, List.mem_singleton] at hp
    rw [hp]
    exact haI
theorem seg_allLoop {Y : Cx} {Aw : Around} {elt iter : Expr} {x : Str} {px pos : Pos} {scope : Scope} {a I t : Addr} {go : Obj} {xs : List V} {te : TE} {Q : Bool → Hp → Prop}
    (hA : Aw.handled = none) (hY : Y.A = Aw.over (.compLoop (.GeneratorExp elt [⟨.Name x px, iter, [], 0⟩] scope pos) 0 (.ref I) .none Y.env) [])
    (hN : Y.N = [(".0" : Str), x]) (S : OneN scope x) (hsc : Y.env.scope = scope) (hcl : Y.env.cells = []) (hex : I ∈ Y.ex) (haI : a ≠ I) (hIt : t ≠ I) (hpn : Y.pn = []) (hxe : Y.xe = fun _ _ => False)
    (hel : PE Y elt te) (hT : SqT Y.K Y.H_0 t xs) (hgo : ∀ v, go.data ≠ .cell v) :
    ∀ (vs : List V) (i : Nat) (H : Hp) (s₀ s : Shared), xs.drop i = vs → GInv Y a I t go i H s → rdAll te vs H Q →
      Seg (model Y.prog Y.w) Aw (gEnd Y Q) (gProt Y a I t go Q) vs.length s₀ (.compLoop (.GeneratorExp elt [⟨.Name x px, iter, [], 0⟩] scope pos) 0 (.ref I) .none Y.env)
        ((model Y.prog Y.w).den (.compLoop (.GeneratorExp elt [⟨.Name x px, iter, [], 0⟩] scope pos) 0 (.ref I) .none Y.env)) [] s := by
  have hh' : (Aw.over (.compLoop (.GeneratorExp elt [⟨.Name x px, iter, [], 0⟩] scope pos) 0 (.ref I) .none Y.env) []).handled = none := hA
  have hco : Y.env.scope.isCoroutine = false := by rw [hsc]; exact S.co
  intro vs
  induction vs with
  | nil =>
    intro i H s₀ s hd hG hr
    obtain ⟨σ, io, l, z, hc, hdd, J⟩ := hG
    obtain ⟨its, rv, tp, _⟩ := J.tuple (Inv.sqt J hT)
    have pI := J.pin (I, io) (List.mem_append_right _ (by simp))
    have hlen : its.toArray[i]? = none := by
      have h1 := rv.length
      have h2 : xs.length ≤ i := List.drop_eq_nil_iff.mp hd
      rw [List.getElem?_toArray]
      exact List.getElem?_eq_none (by omega)
    show Seg _ Aw _ _ _ s₀ _ ((compTurn (.GeneratorExp elt [⟨.Name x px, iter, [], 0⟩] scope pos) 0 (.ref I) .none Y.env).onRaise (leaving Y.env)) [] s
    rw [compTurn_gen, Sem.onRaise_eq_wrap]
    refine seg_bind_wrap (wpAny_standAt ?_)
    refine seg_bind_wrap (wpAny_pyNext_tuple_end hh' ⟨io, pI.1, hc, hdd⟩ tp hlen fun h' hx => ?_)
    refine seg_end (.ok .next) (.inl ⟨.inr rfl, σ, H, ?_, hr⟩)
    exact (GInv.turn J hex haI hpn hcl fun b o hb e => hx b o hb e).pins_of fun p hp => by simp at hp
  | cons v vs ih =>
    intro i H s₀ s hd hG hr
    obtain ⟨σ, io, l, z, hc, hdd, J⟩ := hG
    obtain ⟨its, rv, tp, _⟩ := J.tuple (Inv.sqt J hT)
    have pI := J.pin (I, io) (List.mem_append_right _ (by simp))
    have pa := J.pin (a, go) (List.mem_append_right _ (by simp))
    have hxi : xs[i]? = some v := by
      have := congrArg (fun q : List V => q[0]?) hd
      simpa using this
    have hd2 : xs.drop (i + 1) = vs := by
      have := congrArg List.tail hd
      simpa [List.tail_drop] using this
    obtain ⟨u, hu, ru⟩ := rv.get hxi
    show Seg _ Aw _ _ _ s₀ _ ((compTurn (.GeneratorExp elt [⟨.Name x px, iter, [], 0⟩] scope pos) 0 (.ref I) .none Y.env).onRaise (leaving Y.env)) [] s
    rw [compTurn_gen, Sem.onRaise_eq_wrap]
    refine seg_bind_wrap (wpAny_standAt ?_)
    refine seg_bind_wrap (wpAny_pyNext_tuple_item (i := i) (x := u) ⟨io, pI.1, hc, hdd⟩ tp (by rw [List.getElem?_toArray]; exact hu) fun h' it' sb => ?_)
    obtain ⟨io', hio', hc', hd'⟩ := it'
    have J1 : Inv Y [(a, go), (I, io')] σ H { s with heap := h' } := by
      have J0 := GInv.turn J hex haI hpn hcl fun b o hb e => sb.extBut b o hb e
      refine J0.pins_of fun p hp => ?_
      rcases List.mem_cons.mp hp with rfl | hp
      · exact J0.pin _ (List.mem_append_right _ (by simp))
      · rw [List.mem_singleton] at hp
        subst hp
        exact ⟨hio', pI.2.1, pI.2.2.1, pI.2.2.2.1, fun v q => by rw [hd'] at q; cases q⟩
    refine seg_bind_wrap (wpAny_of_eq (rfl : letOwnedTupleGo (.Name x px) (.ref I) u = pure ()) ?_)
    have nd : Y.N.Nodup := by
      rw [hN]
      simp [S.ne]
    have lc : Loc Y.env.scope x := by
      rw [hsc]
      exact .inl S.loc
    refine seg_bind_wrap ?_
    rw [← hY]
    refine wpAny_mono ((pg_name (X := Y) (pos := px) (i := 1) (x := x) nd (by rw [hN]; rfl) lc (by right; rw [hsc]; exact S.loc)).run _ _ σ H v u (fun σ' H' => σ' = [none, some v] ∧ H' = H) J1 ru ?_) (fun _ s2 h2 => ?_) fun e s' hx => by rw [hxe] at hx; exact hx.elim
    · refine ⟨?_, rfl⟩
      match σ, l, z with
      | [none, y], _, _ => rfl
      | [some _, y], _, z => simp at z
    obtain ⟨σ2, H2, J2, rfl, rfl⟩ := h2
    refine seg_bind_wrap ?_
    simp only [List.forIn_nil]
    refine wpAny_pure ?_
    simp only [if_true]
    have hy : ∀ v, yieldOut Y.env v = yieldValue v := fun v => by simp only [yieldOut, hco, Bool.false_eq_true, if_false]
    simp only [hy]
    rw [Sem.bind_eq_wrap', Sem.bind_eq_wrap', Sem.wrap_wrap, Sem.wrap_wrap]
    refine seg_wrap ?_
    rw [← hY]
    refine wpAny_mono (hel.run _ _ _ _ _ J2 hr) (fun y s3 h3 => ?_) fun e s' hx => by rw [hxe] at hx; exact hx.elim
    obtain ⟨r, H3, J3, rr, b, rfl, ht, hf⟩ := h3
    obtain rfl : y = Value.bool b := rr
    have G3 : GInv Y a I t go (i + 1) H3 s3 := ⟨_, io', rfl, rfl, hc', hd', J3⟩
    refine seg_at (seg_yield rfl rfl rfl ⟨b, i + 1, H3, rfl, G3, hf, fun hb s' o g e => ?_⟩)
    exact seg_again rfl (ih (i + 1) H3 s' s' hd2 (G3.woke o g e) (ht hb))
end
theorem seg_allStart {Y : Cx} {Aw : Around} {elt iter : Expr} {x : Str} {px pos : Pos} {scope : Scope} {a I t : Addr} {go : Obj} {xs : List V} {te : TE} {Q : Bool → Hp → Prop}
    (hA : Aw.handled = none) (hY : Y.A = Aw.over (.compLoop (.GeneratorExp elt [⟨.Name x px, iter, [], 0⟩] scope pos) 0 (.ref I) .none Y.env) [])
    (hN : Y.N = [(".0" : Str), x]) (S : OneN scope x) (hsc : Y.env.scope = scope) (hcl : Y.env.cells = []) (hex : I ∈ Y.ex) (haI : a ≠ I) (hIt : t ≠ I) (hpn : Y.pn = []) (hxe : Y.xe = fun _ _ => False)
    (hel : PE Y elt te) (hT : SqT Y.K Y.H_0 t xs) (hgo : ∀ v, go.data ≠ .cell v) {H : Hp} {s₀ s : Shared} (hG : GInv Y a I t go 0 H s) (hr : rdAll te xs H Q) :
    Seg (model Y.prog Y.w) Aw (gEnd Y Q) (gProt Y a I t go Q) xs.length s₀ (.compStart (.GeneratorExp elt [⟨.Name x px, iter, [], 0⟩] scope pos) 0 (.ref I) .none Y.env)
      ((model Y.prog Y.w).den (.compStart (.GeneratorExp elt [⟨.Name x px, iter, [], 0⟩] scope pos) 0 (.ref I) .none Y.env)) [] s := by
  have go1 : ∀ s₀, Seg (model Y.prog Y.w) Aw (gEnd Y Q) (gProt Y a I t go Q) xs.length s₀ (.compStart (.GeneratorExp elt [⟨.Name x px, iter, [], 0⟩] scope pos) 0 (.ref I) .none Y.env) (.pure (.again (.compLoop (.GeneratorExp elt [⟨.Name x px, iter, [], 0⟩] scope pos) 0 (.ref I) .none Y.env))) [] s := fun s₀ => by
    apply seg_again rfl
    exact seg_allLoop hA hY hN S hsc hcl hex haI hIt hpn hxe hel hT hgo xs 0 H s₀ s (List.drop_zero ..) hG hr
  obtain ⟨σ, io, l, z, hc, hdd, J⟩ := hG
  obtain ⟨its, rv, tp, _⟩ := J.tuple (Inv.sqt J hT)
  have pI := J.pin (I, io) (List.mem_append_right _ (by simp))
  have hh : (Aw.over (.compStart (.GeneratorExp elt [⟨.Name x px, iter, [], 0⟩] scope pos) 0 (.ref I) .none Y.env) []).handled = none := hA
  have W := Walks.tuple (prog := Y.prog) (w := Y.w) hh I t hIt its.toArray
  have again := go1 s₀
  show Seg _ Aw _ _ _ s₀ _ ((compStart _ 0 (.ref I) .none Y.env).onRaise (leaving Y.env)) [] s
  unfold compStart
  rw [Sem.onRaise_eq_wrap]
  apply seg_bind_wrap (m := ask)
  apply wpAny_askSetting
  split
  · exact again
  · apply seg_bind_wrap
    apply wpAny_rule
    apply seg_bind_wrap
    apply wpAny_standAt
    apply seg_bind_wrap
    exact W.self 0 s _ _ ⟨⟨io, pI.1, hc, hdd⟩, tp⟩ again
/-- the generator's own object -/
structure GenO (go : Obj) (g : Nat) : Prop where
  cls : go.cls = .type "generator"
  data : ∃ nm qn, go.data = .fields #[.int g 0, nm, qn]
  slots : go.slots = #[]
theorem GenO.at {go : Obj} {g : Nat} {h : Heap} {a : Addr} (G : GenO go g) (e : h.get? a = some go) : h.IsGen a g := by
  obtain ⟨nm, qn, d⟩ := G.data
  exact ⟨go, nm, qn, e, G.cls, d, G.slots⟩
theorem inv_gens {Y : Cx} {σ : L2.St} {H : Hp} {s s' : Shared} {pins : List (Addr × Obj)} (J : Inv Y pins σ H s) (o : s'.os = s.os) (g : AllBare s'.gens) (k : ∀ b o, s.heap.get? b = some o → s'.heap.get? b = some o) : Inv Y pins σ H s' :=
  J.call' (ch := []) o (Un.kept k) (J.hok.kept k) g fun b z => by simp at z
theorem all_loop {Y : Cx} {A : Around} {a I t : Addr} {go : Obj} {g : Nat} {R : Result → Shared → Prop} {Q : Bool → Hp → Prop} (hh : A.handled = none) (hd : A.depth < recursionLimit) (G : GenO go g)
    (fin : ∀ b σ H s, Inv Y [] σ H s → Q b H → R (.ok (.ret (.bool b))) s) :
    ∀ (n : Nat) (s : Shared), s.heap.get? a = some go → s.heap.NoLimit → (∃ gs, s.gens[g]? = some gs ∧ gs.Goes (model Y.prog Y.w) A.in1.in1 (gEnd Y Q) (gProt Y a I t go Q) n (.send .none) (s.setGen g .running)) →
      codeAny (model Y.prog Y.w) A (.builtin "all.loop" ⟨[.ref a], []⟩) R s := by
  intro n
  induction n with
  | zero =>
    intro s ha hl ⟨gs, hgs, hgo⟩
    apply codeAny_builtin F.entry_all_loop
    rw [Around.under_plainId F.plain_all_loop _]
    show wpAny _ A.in1 (pyNext (.ref a) >>= _) _ _ s
    apply wpAny_bind
    apply next_genG (A := A.in1) (F := gDone Y Q) (Er := fun _ _ => False) hh hl hd (G.at ha) hgs hgo
    · intro v s1 gs' hb hv
      obtain ⟨b, i, H, rfl, hG, hf, ht⟩ := hv
      cases b with
      | true =>
        obtain ⟨_, _, _, _, _, _, J⟩ := hG
        exact False.elim (ht rfl s1 rfl J.bare rfl)
      | false =>
        obtain ⟨σ, io, _, _, _, _, J⟩ := hG
        apply wpAny_bind
        apply wpAny_holding
        apply wpAny_truthy_bool
        apply wpAny_bind
        apply wpAny_letGo
        show wpAny _ _ (rule _ >>= _) _ _ _
        apply wpAny_bind
        apply wpAny_rule
        apply wpAny_pure
        exact fin false σ H _ (inv_gens (J.pins_of fun p hp => by simp at hp) rfl (allBare_setGen J.bare hb) fun _ _ e => e) (hf rfl)
    · intro s1 hp h' hk
      obtain ⟨σ, H, J, q⟩ := hp
      show wpAny _ _ (rule _ >>= _) _ _ _
      apply wpAny_bind
      apply wpAny_rule
      apply wpAny_pure
      exact fin true σ H _ (inv_gens J rfl (allBare_setGen J.bare rfl) hk) q
    · intro e s1 he
      exact he.elim
  | succ n ih =>
    intro s ha hl ⟨gs, hgs, hgo⟩
    have hgl : g < s.gens.size := (Array.getElem?_eq_some_iff.mp hgs).1
    apply codeAny_builtin F.entry_all_loop
    rw [Around.under_plainId F.plain_all_loop _]
    show wpAny _ A.in1 (pyNext (.ref a) >>= _) _ _ s
    apply wpAny_bind
    apply wpAny_gsz (n := g + 1) hgl
    apply next_genG (A := A.in1) (F := gDone Y Q) (Er := fun _ _ => False) hh hl hd (G.at ha) hgs hgo
    · intro v s1 gs' hb hv hsz
      obtain ⟨b, i, H, rfl, hG, hf, ht⟩ := hv
      have hG' := hG
      obtain ⟨σ, io, _, _, _, _, J⟩ := hG'
      have pa := J.pin (a, go) (List.mem_append_right _ (by simp))
      apply wpAny_bind
      apply wpAny_holding
      apply wpAny_truthy_bool
      apply wpAny_bind
      apply wpAny_letGo
      cases b with
      | false =>
        show wpAny _ _ (rule _ >>= _) _ _ _
        apply wpAny_bind
        apply wpAny_rule
        apply wpAny_pure
        exact fin false σ H _ (inv_gens (J.pins_of fun p hp => by simp at hp) rfl (allBare_setGen J.bare hb) fun _ _ e => e) (hf rfl)
      | true =>
        simp only [if_true]
        have hsz1 : g < s1.gens.size := by
          have q : (s1.setGen g gs').gens.size = s1.gens.size := setGen_size _ _ _
          have : g + 1 ≤ (s1.setGen g gs').gens.size := hsz
          omega
        refine wpAny_pure ⟨plainId_quiet F.plain_all_loop _, ih (s1.setGen g gs') pa.1 J.nolimit ⟨gs', setGen_at hsz1, ?_⟩⟩
        exact ht rfl _ rfl (allBare_setGen (s := s1.setGen g gs') (allBare_setGen J.bare hb) rfl) rfl
    · intro s1 hp h' hk hsz
      obtain ⟨σ, H, J, q⟩ := hp
      show wpAny _ _ (rule _ >>= _) _ _ _
      apply wpAny_bind
      apply wpAny_rule
      apply wpAny_pure
      exact fin true σ H _ (inv_gens J rfl (allBare_setGen J.bare rfl) hk) q
    · intro e s1 he
      exact he.elim
theorem clo_none {cells : List (Str × Addr)} : ∀ {ns : List (Str × NameKind)} {acc : List (Str × Addr)}, (∀ y ∈ ns, y.2 ≠ .free) → cloFrom cells ns acc = acc
  | [], _, _ => rfl
  | (n, k) :: r, acc, h => by
    have hk : k ≠ .free := h (n, k) (by simp)
    unfold cloFrom
    cases k <;> first | exact absurd rfl hk | exact clo_none fun y hy => h y (List.mem_cons_of_mem _ hy)
theorem envs_loop {elt iter : Expr} {x : Str} {px pos : Pos} {scope : Scope} {it acc : Value} {env : Env} {A : Around} {l : List Env} (h : A.frames = some l) : (A.over (.compLoop (.GeneratorExp elt [⟨.Name x px, iter, [], 0⟩] scope pos) 0 it acc env) []).frames = some (env :: l) := by
  show pushEnvs (Code.envs (.compLoop (.GeneratorExp elt [⟨.Name x px, iter, [], 0⟩] scope pos) 0 it acc env)) (pushEnvs [] A.frames) = _
  rw [h]
  rfl
theorem room_loop {k : Nat} {A : Around} {elt iter : Expr} {x : Str} {px pos : Pos} {scope : Scope} {it acc : Value} {env : Env} (r : Room (k + 1) A) : Room k (A.in1.in1.over (.compLoop (.GeneratorExp elt [⟨.Name x px, iter, [], 0⟩] scope pos) 0 it acc env) []) := by
  have h1 : (A.in1.in1.over (.compLoop (.GeneratorExp elt [⟨.Name x px, iter, [], 0⟩] scope pos) 0 it acc env) []).depth = A.in1.in1.depth + 1 := rfl
  have h2 : (A.in1.in1.over (.compLoop (.GeneratorExp elt [⟨.Name x px, iter, [], 0⟩] scope pos) 0 it acc env) []).units = A.in1.in1.units + 3 := rfl
  have h3 : A.in1.in1.depth = A.depth := rfl
  have h4 : A.in1.in1.units = A.units + 1 + 1 := rfl
  have h5 := r.dp
  have h6 := r.un
  exact ⟨r.hd, by rw [h1, h3]; omega, by rw [h2, h4]; omega⟩
section
variable {X : Cx} {pins : List (Addr × Obj)} {σ : L2.St} {H : Hp} {s : Shared}
/-- made, not begun; what its whole walk by all leaves -/
def ReadyA (X : Cx) (pins : List (Addr × Obj)) (σ : L2.St) (te : TE) (xs : List V) (H2 : Hp) (a : Addr) (s5 : Shared) : Prop :=
  ∃ (go : Obj) (g : Nat), GenO go g ∧ s5.heap.get? a = some go ∧ s5.heap.NoLimit ∧ g < s5.gens.size ∧ ∀ Q : Bool → Hp → Prop, rdAll te xs H2 Q → ∃ (Y : Cx) (I t : Addr),
    Y.prog = X.prog ∧ Y.w = X.w ∧ (∃ gs, s5.gens[g]? = some gs ∧ gs.Goes (model Y.prog Y.w) X.A.in1.in1 (gEnd Y Q) (gProt Y a I t go Q) xs.length (.send .none) (s5.setGen g .running)) ∧
    ∀ b σ' H' s', Inv Y [] σ' H' s' → Q b H' → ∃ H'', Inv X pins σ H'' s' ∧ Q b H''
theorem gen_tup {c P : Addr} {elt iter : Expr} {x : Str} {px gpos : Pos} {scope : Scope} {te ti : TE} {k : Nat} {Q' : Value → Shared → Prop} {R : List V → Hp → Prop}
    (hr : Room (k + 1) X.A) (TB : GxR.TabB X.base X.mg c P) (hcode : X.env.code = .ref c) (S : OneN scope x) (hi : PE X iter ti)
    (hel : ∀ (s : Shared) (H : Hp) (C : Addr) (code : Value) (I : Addr), Room k (X.A.in1.in1.over (.compLoop (.GeneratorExp elt [⟨.Name x px, iter, [], 0⟩] scope gpos) 0 (.ref I) .none (genEnv scope [] C code builtinsNs X.env)) []) →
      PE (gxOf X x s H (genEnv scope [] C code builtinsNs X.env) (X.A.in1.in1.over (.compLoop (.GeneratorExp elt [⟨.Name x px, iter, [], 0⟩] scope gpos) 0 (.ref I) .none (genEnv scope [] C code builtinsNs X.env)) []) I) elt te)
    (hs : ∀ v, genFold iter X.env v = pure v) (I0 : Inv X pins σ H s)
    (h : ti σ H fun v H1 => ∃ (t : Addr) (xs : List V), v = .ref t ∧ SqT X.K H1 t xs ∧ GxR.TabG H1 P ∧ ∀ H2, GxR.Tabbed P H1 H2 → R xs H2)
    (hQ : ∀ xs H2 a s5, R xs H2 → ReadyA X pins σ te xs H2 a s5 → Q' (.ref a) s5) :
    wpAny (model X.prog X.w) X.A (eval (.GeneratorExp elt [⟨.Name x px, iter, [], 0⟩] scope gpos) X.env) Q' X.xe s := by
  have hcl : closureFor scope X.env = pure [] := by
    rw [closure_ok fun y hy hf => absurd hf (S.free y hy), clo_none S.free]
  have hroom : X.A.depth < recursionLimit := by
    have := hr.dp
    omega
  apply wpAny_GeneratorExp_make S.co hcl S.cell S.dot S.kind hroom ?_ hs
  apply thn (hi.run pins s σ H _ I0 h)
  rintro xv s1 ⟨v, H1, I1, r1, t, xs, rfl, hT, ⟨tb, hP, ht⟩, q1⟩
  obtain rfl : xv = Value.ref t := r1
  obtain ⟨its, rv, tp, _⟩ := I1.tuple hT
  apply wpAny_pyIter_tuple tp
  generalize ho : ({ cls := .type "tuple_iterator", data := .fields #[.ref t, .int 0 0] } : Obj) = it0
  have old : ∀ b u, s1.heap.get? b = some u → (s1.heap.push it0).get? b = some u := fun b u e => Heap.get?_push_of_some _ e
  have here : (s1.heap.push it0).get? s1.heap.objs.size = some it0 := by
    subst ho
    exact Heap.get?_push_size _ rfl
  have tabS : s1.heap.get? P = some { cls := .none, data := .fields tb } := I1.hok P _ hP
  have Plt : P < s1.heap.objs.size := Heap.lt_size tabS
  have lim2 : (s1.heap.push it0).NoLimit := I1.nolimit.push it0
  refine ⟨lim2, ?_⟩
  refine gcode (s2 := { s1 with heap := s1.heap.push it0 }) hcode (TB.code.keeps fun b u e => old b u (I1.bk b u e)) (old _ _ tabS) ht fun code h3 n3 tb3 hx hsz hP3 hmore ht3 => ?_
  obtain ⟨bm, ob, e1, e2, e3, e4, e5, e6, e7, e8⟩ := TB.bm
  have keep3 : ∀ b u, b ≠ P → s1.heap.get? b = some u → h3.get? b = some u := fun b u hb e => hx b u hb (old b u e)
  have nP : s1.heap.objs.size ≠ P := Nat.ne_of_gt Plt
  have here3 : h3.get? s1.heap.objs.size = some it0 := hx _ _ nP here
  have sz3 : s1.heap.objs.size < h3.objs.size := Heap.lt_size here3
  have cP : cStatics ≠ P := fun e => by
    obtain ⟨_, hns, _⟩ := I1.nolimit
    obtain ⟨o', es, ep, ho', hd', _⟩ := hns
    rw [e, tabS] at ho'
    cases ho'
    cases hd'
  apply wpAny_builtinsFor (m := X.mg) (by rw [I1.ok.glob]; exact ((I1.mod.glob.keeps I1.bk).push it0).extBut hx TB.gP) e1 e2 (keep3 _ _ e4 (I1.bk _ _ e5)) e6 e7 e8
  intro h5 hns hsb
  obtain ⟨more, em⟩ := hmore
  subst em
  have I4 := GxR.inv_tab (more := more) (h' := h3) (g' := s1.gens) (d' := s1.drawn) (t' := n3) I1 hP keep3 hP3 I1.bare
  have H2t : (upd H1 P (.tbl (tb ++ more))) s1.heap.objs.size = none := by
    rw [upd_ne nP]
    exact I1.hok.fresh (Nat.le_refl _)
  have T2 : SqT X.K (upd H1 P (.tbl (tb ++ more))) t xs := by
    have ne : ∀ u, H1 t = some u → (∀ q, u ≠ .tbl q) → t ≠ P := fun u e q z => by
      rw [z, hP] at e
      exact q tb (Option.some.inj e).symm
    rcases hT with (z | ⟨o, z⟩) | z
    · exact .inl (.inl (by rw [upd_ne (ne _ z fun q y => by cases y)]; exact z))
    · exact .inl (.inr ⟨o, by rw [upd_ne (ne _ z fun q y => by cases y)]; exact z⟩)
    · exact .inr z
  generalize hgo : ({ cls := .type "generator", data := .fields #[.int s1.gens.size 0, .str "<genexpr>" (n3 + 1), .str (X.env.qual ++ "<genexpr>") (n3 + 1 + 1)] } : Obj) = go
  have GO : GenO go s1.gens.size := by
    subst hgo
    exact ⟨rfl, ⟨_, _, rfl⟩, rfl⟩
  have k5 : ∀ b u, h3.get? b = some u → h5.get? b = some u := fun b u e => hsb.extBut b u (Nat.ne_of_lt (Heap.lt_size e)) (Heap.get?_push_of_some _ e)
  have k6 : ∀ b u, h3.get? b = some u → (h5.push go).get? b = some u := fun b u e => Heap.get?_push_of_some _ (k5 b u e)
  have sz5 : h5.objs.size = h3.objs.size + 1 := by rw [hsb.1, Heap.size_push]
  have hga : (h5.push go).get? h5.objs.size = some go := by
    subst hgo
    exact Heap.get?_push_size _ rfl
  refine hQ xs (upd H1 P (.tbl (tb ++ more))) _ _ (q1 _ ⟨⟨_, upd_same, ht3⟩, fun b hb => upd_ne hb⟩) ⟨go, s1.gens.size, GO, hga, I4.nolimit.keeps k6, by show _ < (s1.gens.push _).size; rw [Array.size_push]; exact Nat.lt_succ_self _, fun Q hrd => ?_⟩
  have tlt : t < s1.heap.objs.size := by
    obtain ⟨o, e, _⟩ := _root_.id tp
    exact Heap.lt_size e
  have hIt : t ≠ s1.heap.objs.size := Nat.ne_of_lt tlt
  have haI : h5.objs.size ≠ s1.heap.objs.size := by
    rw [sz5]
    omega
  have nst : ∀ b, s1.heap.objs.size ≤ b → b ∉ frs X.stack := fun b hb hm => by
    rcases List.mem_cons.mp (I1.stkSub b hm) with z | z
    · rw [z] at hb
      exact absurd (Nat.lt_of_lt_of_le I1.lt hb) (Nat.lt_irrefl _)
    · exact I1.nofs hb z
  have itd : it0.cls = .type "tuple_iterator" ∧ it0.data = .fields #[.ref t, .int ((0 : Nat) : Int) 0] := by
    subst ho
    exact ⟨rfl, rfl⟩
  have god : ∀ v, go.data ≠ .cell v := fun v q => by
    obtain ⟨nm, qn, d⟩ := GO.data
    rw [d] at q
    cases q
  have KY : (gxOf X x { s1 with heap := h3, gens := s1.gens, drawn := s1.drawn, toks := n3 } (upd H1 P (.tbl (tb ++ more))) (genEnv scope [] h3.objs.size code builtinsNs X.env)
      (X.A.in1.in1.over (.compLoop (.GeneratorExp elt [⟨.Name x px, iter, [], 0⟩] scope gpos) 0 (.ref s1.heap.objs.size) .none (genEnv scope [] h3.objs.size code builtinsNs X.env)) []) s1.heap.objs.size).Ok := by
    refine ⟨I4.ok.mod, S.kind, I4.ok.glob, rfl, Nat.le_refl _, fun y z c e _ => (by cases e), fun y hy => ?_, fun y c _ e => (by cases e), fun _ => hr.hd, envs_loop I4.ok.frames, .inr ⟨rfl, rfl⟩, fun b hb => ?_, fun b o e => I4.bs b o e, Nat.le_trans I4.ok.bsz I4.sz, fun b o e hb => ?_, fun b hb => ?_, I4.stack, I4.stkFree⟩
    · have hy' : scope.names.lookup y = some .cell ∨ scope.names.lookup y = some .free := hy
      rcases hy' with z | z
      · exact absurd rfl (S.cell _ (PySem.mem_of_lookup z))
      · exact absurd rfl (S.free _ (PySem.mem_of_lookup z))
    · rw [List.mem_singleton.mp hb]
      exact ⟨Nat.ne_of_lt sz3, fun y c e => (by cases e)⟩
    · rw [List.mem_singleton.mp hb] at e
      exact absurd (Heap.lt_size (I1.bk _ _ e)) (Nat.lt_irrefl _)
    · rw [List.mem_singleton.mp hb]
      exact nst _ (Nat.le_refl _)
  refine ⟨gxOf X x { s1 with heap := h3, gens := s1.gens, drawn := s1.drawn, toks := n3 } (upd H1 P (.tbl (tb ++ more))) (genEnv scope [] h3.objs.size code builtinsNs X.env)
      (X.A.in1.in1.over (.compLoop (.GeneratorExp elt [⟨.Name x px, iter, [], 0⟩] scope gpos) 0 (.ref s1.heap.objs.size) .none (genEnv scope [] h3.objs.size code builtinsNs X.env)) []) s1.heap.objs.size, s1.heap.objs.size, t, rfl, rfl,
    ⟨_, Array.getElem?_push_size .., rfl, seg_allStart (Aw := X.A.in1.in1) hr.hd rfl rfl S rfl rfl (by show _ ∈ [_]; simp) haI hIt rfl rfl (hel _ _ _ _ _ (room_loop hr)) T2 god ⟨[none, none], it0, rfl, rfl, itd.1, itd.2, ?_⟩ hrd⟩, fun b σ' H' s' J q => ⟨H', I4.call' (ch := [s1.heap.objs.size]) J.os J.base J.hok J.bare fun b hb => ?_, q⟩⟩
  · refine ⟨KY, rfl, allBare_setGen (AllBare.push I1.bare rfl) rfl, Un.kept k6, ⟨_, hns.push _, fun i y v _ h2 _ => ?_⟩, fun y c e => (by cases e), I4.hok.fresh (Nat.le_refl _), fun y c e => (by cases e), fun p hp => ?_, I4.hok.kept k6, rfl⟩
    · match i, h2 with
      | 0, h2 => cases h2
      | 1, h2 => cases h2
      | n + 2, h2 => cases h2
    · rcases List.mem_cons.mp (show p ∈ [(h5.objs.size, go), (s1.heap.objs.size, it0)] from hp) with rfl | hp
      · exact ⟨hga, I4.hok.fresh (show h3.objs.size ≤ h5.objs.size by omega), (by show h5.objs.size ≠ h3.objs.size; omega), nst _ (show s1.heap.objs.size ≤ h5.objs.size by omega), god⟩
      · rw [List.mem_singleton] at hp
        subst hp
        exact ⟨k6 _ _ here3, H2t, Nat.ne_of_lt sz3, nst _ (Nat.le_refl _), fun v q => by rw [itd.2] at q; cases q⟩
  · rw [List.mem_singleton.mp hb]
    refine ⟨.inr I1.sz, Nat.ne_of_gt I1.lt, fun y c e z => ?_, fun p hp z => ?_⟩
    · obtain ⟨v, o, e2, _⟩ := I1.cell y c e
      have := Heap.lt_size e2
      rw [z] at this
      exact Nat.lt_irrefl _ this
    · have := Heap.lt_size (I1.pin p hp).1
      rw [z] at this
      exact Nat.lt_irrefl _ this
end
section
variable {X : Cx}
/-- all(e for x in t), t a tuple: the def's table may have grown when the first is asked -/
def tAllT (K : PySem.W.Frag) (P : Addr) (te ti : TE) : TE := fun σ H Q => ti σ H fun v H1 =>
  ∃ (t : Addr) (xs : List V), v = .ref t ∧ SqT K H1 t xs ∧ GxR.TabG H1 P ∧ ∀ H2, GxR.Tabbed P H1 H2 → rdAll te xs H2 fun b H' => Q (.bl b) H'
theorem pe_allT {c P : Addr} {elt iter : Expr} {x : Str} {px p pos gpos : Pos} {scope : Scope} {te ti : TE} {k : Nat}
    (hr : Room (k + 1) X.A) (hg : Gl X "all") (hm : X.mg "all" = none) (TB : GxR.TabB X.base X.mg c P) (hcode : X.env.code = .ref c) (S : OneN scope x) (hi : PE X iter ti)
    (hel : ∀ (s : Shared) (H : Hp) (C : Addr) (code : Value) (I : Addr), Room k (X.A.in1.in1.over (.compLoop (.GeneratorExp elt [⟨.Name x px, iter, [], 0⟩] scope gpos) 0 (.ref I) .none (genEnv scope [] C code builtinsNs X.env)) []) →
      PE (gxOf X x s H (genEnv scope [] C code builtinsNs X.env) (X.A.in1.in1.over (.compLoop (.GeneratorExp elt [⟨.Name x px, iter, [], 0⟩] scope gpos) 0 (.ref I) .none (genEnv scope [] C code builtinsNs X.env)) []) I) elt te)
    (hs : ∀ v, genFold iter X.env v = pure v) (hb : bootBuiltins "all" = some (.builtin "all") := by decide +kernel)
    (he : starEach [.GeneratorExp elt [⟨.Name x px, iter, [], 0⟩] scope gpos] X.env = (false, eval (.GeneratorExp elt [⟨.Name x px, iter, [], 0⟩] scope gpos) X.env) :: starEach [] X.env := by rfl) :
    PE X (.Call (.Name "all" p) [.GeneratorExp elt [⟨.Name x px, iter, [], 0⟩] scope gpos] [] pos) (tAllT X.K P te ti) := by
  constructor
  intro pins s σ H Q I want
  have hroom : X.A.depth < recursionLimit := by
    have := hr.dp
    omega
  apply wpAny_Call_Name_kw (ld_blt I hg hm hb ?_)
  apply PyProof.Rows.callWith_builtin1 ?_ he (by rfl)
  rw [he]
  show wpAny _ _ (spliced ((false, eval (.GeneratorExp elt [⟨.Name x px, iter, [], 0⟩] scope gpos) X.env) :: backTo pos (starEach [] X.env))) _ _ s
  apply Calls.spliced_cons (gen_tup (R := fun xs H2 => rdAll te xs H2 fun b H' => Q (.bl b) H') hr TB hcode S hi hel hs I want ?_)
  intro xs H2 a s5 k5 ready
  obtain ⟨go, g, GO, ha, lim, _, fin⟩ := ready
  obtain ⟨Y, I', t, eP, eW, hgo, back⟩ := fin _ k5
  apply Calls.spliced_nil
  apply call_function_tree F.kind_all F.plain_all F.entry_all (F.args_all1 _)
  unfold Builtin.«all»
  refine wpAny_bind (m := oneArg "all" _) (wpAny_pure ?_)
  refine wpAny_bind (wpAny_pyIter_gen (GO.at ha) ?_)
  refine wpAny_pure ⟨plainId_quiet F.plain_all_loop _, ?_⟩
  have key := all_loop (Y := Y) (A := X.A) (R := fun r s' => match r with | .ok (.ret v) => EP X pins σ Q v s' | .ok _ => False | .error e => X.xe e s') hr.hd hroom GO (fun b σ' H' s' J q => by
    obtain ⟨H'', J2, q2⟩ := back b σ' H' s' J q
    exact ⟨.bl b, H'', J2, rfl, q2⟩) xs.length s5 ha lim hgo
  rw [eP, eW] at key
  exact key
end
/-- for x in (a if c else b) -/
def iIf (tc : TT) (wa wb : TI) : TI := fun σ H R => tc σ H fun b H1 => if b = true then wa σ H1 R else wb σ H1 R
theorem pi_if {X : Cx} {tg c a b : Expr} {pos : Pos} {tc : TT} {wa wb : TI} (hc : PT X c tc) (ha : PI X tg a wa) (hb : PI X tg b wb) : PI X tg (.IfExp c a b pos) (iIf tc wa wb) := by
  constructor
  intro pins s σ H R I h
  apply wpAny_IfExp
  apply thn (hc.run pins s σ H _ I h)
  rintro d s1 ⟨H1, I1, q1⟩
  cases d with
  | true => exact ha.run pins s1 σ H1 R I1 q1
  | false => exact hb.run pins s1 σ H1 R I1 q1
end Jf
set_option Elab.async false
set_option linter.all false
set_option maxRecDepth 100000
set_option maxHeartbeats 4000000
/-! ### enumerate(t) of a tuple -/
namespace PySem
open AutoSeq1 (wpAny_loadPart')
section
variable {prog : Program} {w : World} {A : Around} {E : Value → Shared → Prop} {s : Shared} {e it t : Addr} {i : Nat} {items : Array Value} {x old : Value}
/-- the iterator within hands on an item -/
theorem jf_next {Q : Value → Shared → Prop} (a : s.heap.IsTupleIter it t i) (b : s.heap.IsTuple t items) (hx : items[i]? = some x) (k : ∀ h', h'.IsTupleIter it t (i + 1) → Heap.SameBut it s.heap h' → Q x { s with heap := h' }) :
    wpAny (model prog w) A (Builtin.SmallTypes.nextOf (.ref it)) Q E s := by
  obtain ⟨u, e1, e2, e3⟩ := id a
  obtain ⟨v, f1, _, n, f2⟩ := id b
  have S := F.slot_tuple_iterator_next
  have no : ¬ ((Value.ref t == Value.none) = true) := Bool.false_ne_true
  unfold Builtin.SmallTypes.nextOf
  refine wpAny_bind (wpAny_callSpecial?_slot (name := Str.ofString "__next__") a.typeIs S (wpAny_call_entry S a.typeIs F.entry_tuple_iterator_next ?_ (F.args_tuple_iterator_next_1 _)))
  refine wpAny_bind (m := field (.ref it) 0) (wpAny_field e1 e3 (x := .ref t) rfl ?_)
  dsimp only
  rw [if_neg no]
  refine wpAny_bind (m := field (.ref it) 1) (wpAny_field e1 e3 (x := .int i 0) rfl (wpAny_bind (m := seqItems? (.ref t)) (wpAny_seqItems f1 f2 ?_)))
  simp only [Int.toNat_natCast, hx]
  refine wpAny_bind (wpAny_setField e1 e3 (by simp) (wpAny_pure ⟨x, rfl, wpAny_pure (k _ ⟨_, Heap.get?_update_self _ e1 (Obj.isFreed_of_fields (Obj.data_mapFields e3 _)), (Obj.cls_mapFields ..).trans e2, ?_⟩ (Heap.SameBut.update ..))⟩))
  rw [Obj.data_mapFields e3]
  simp [rawInt]
/-- .. or has none -/
theorem jf_none {Q : Value → Shared → Prop} (hh : A.handled = none) (a : s.heap.IsTupleIter it t i) (b : s.heap.IsTuple t items) (hx : items[i]? = none)
    (k : ∀ h' y, Heap.ExtBut it s.heap h' → (∃ o, h'.get? y = some o ∧ o.cls = .type "StopIteration") → E (.ref y) { s with heap := h' }) : wpAny (model prog w) A (Builtin.SmallTypes.nextOf (.ref it)) Q E s := by
  obtain ⟨u, e1, e2, e3⟩ := id a
  obtain ⟨v, f1, _, n, f2⟩ := id b
  have S := F.slot_tuple_iterator_next
  have no : ¬ ((Value.ref t == Value.none) = true) := Bool.false_ne_true
  unfold Builtin.SmallTypes.nextOf
  refine wpAny_bind (wpAny_callSpecial?_slot (name := Str.ofString "__next__") a.typeIs S (wpAny_call_entry S a.typeIs F.entry_tuple_iterator_next ?_ (F.args_tuple_iterator_next_1 _)))
  refine wpAny_bind (m := field (.ref it) 0) (wpAny_field e1 e3 (x := .ref t) rfl ?_)
  dsimp only
  rw [if_neg no]
  refine wpAny_bind (m := field (.ref it) 1) (wpAny_field e1 e3 (x := .int i 0) rfl (wpAny_bind (m := seqItems? (.ref t)) (wpAny_seqItems f1 f2 ?_)))
  simp only [Int.toNat_natCast, hx]
  refine wpAny_bind (wpAny_rule (wpAny_bind (wpAny_setField e1 e3 (by simp) (wpAny_bind (m := newExc (.type "StopIteration") []) ?_))))
  simp only [newExc, newTuple]
  refine wpAny_bind (wpAny_newObj_type (wpAny_bind (m := firstArgMember _ _) (wpAny_of_eq (a := Value.none) (by first | rfl | (simp only [firstArgMember]; rfl)) (wpAny_newObj_type ?_ (by size_fits)))) (by size_fits))
  simp only [raiseNew]
  refine wpAny_bind (wpAny_handled ?_)
  first | rw [show A.in1.handled = none from hh] | rw [hh]
  exact wpAny_bind (wpAny_pure (wpAny_throw (k _ _ (((Heap.SameBut.update ..).extBut.push _).push _) ⟨_, Heap.get?_push_size _ rfl, rfl⟩)))
/-- enumerate's turn, whatever stands within: what it needs of the turn within is told by hn -/
theorem jf_enum {P : Heap → Prop} {Q : Value → Shared → Prop} (he : IsEnum s.heap e it i old) (hne : e ≠ it)
    (hn : ∀ {B : Around} {R : Value → Shared → Prop} {Ex : Value → Shared → Prop}, (∀ h', P h' → Heap.SameBut it s.heap h' → R x { s with heap := h' }) → wpAny (model prog w) B (Builtin.SmallTypes.nextOf (.ref it)) R Ex s)
    (hP : ∀ h h', P h → (∀ b o, b ≠ e → h.get? b = some o → h'.get? b = some o) → P h')
    (k : ∀ h', IsEnumOut h' e it ((i : Int) + 1) x s.heap.objs.size → P h' → h'.get? s.heap.objs.size = some { cls := .type "tuple", data := .seq #[.int i s.toks, x] } → h'.objs.size = s.heap.objs.size + 1 →
      (∀ b o, b ≠ e → b ≠ it → s.heap.get? b = some o → h'.get? b = some o) → Q (.ref s.heap.objs.size) { s with heap := h', toks := s.toks + 1 }) :
    wpAny (model prog w) A (Builtin.«enumerate.__next__» ⟨[.ref e], []⟩) (fun f s' => ∃ v, f = .done (.ret v) ∧ Q v s') E s := by
  obtain ⟨hp, g, d, tk, os⟩ := s
  have lt : e < hp.objs.size := Heap.lt_size he
  refine wpAny_bind (m := field (.ref e) 2) (wpAny_field he rfl (x := .ref it) rfl (wpAny_bind (hn fun g1 p1 (b1 : Heap.SameBut it hp g1) => ?_)))
  have q1 : IsEnum g1 e it i old := (b1.2 e hne).trans he
  refine wpAny_bind (m := field (.ref e) 3) (wpAny_field q1 rfl (x := rawInt i) rfl (wpAny_bind (m := field (.ref e) 4) (wpAny_field q1 rfl (x := .none) rfl (wpAny_bind (m := mkInt i) (wpAny_mkInt ?_)))))
  refine wpAny_bind (m := setField (.ref e) 3 (rawInt ((i : Int) + 1))) (wpAny_setField_rec q1 (by simp) fun g2 (q2 : IsEnum g2 e it ((i : Int) + 1) old) (b2 : Heap.SameBut e g1 g2) => ?_)
  refine wpAny_bind (m := setField (.ref e) 4 .none) (wpAny_setField_rec q2 (by simp) fun g3 (q3 : IsEnum g3 e it ((i : Int) + 1) old) (b3 : Heap.SameBut e g2 g3) => ?_)
  refine wpAny_bind (m := newTuple [.int i tk, x]) (wpAny_newTuple ?_)
  have z3 : g3.objs.size = hp.objs.size := by rw [b3.1, b2.1, b1.1]
  have b13 : ∀ b o, b ≠ e → g1.get? b = some o → g3.get? b = some o := fun b o n y => b3.extBut b o n (b2.extBut b o n y)
  generalize hg : g3.push { cls := .type "tuple", data := .seq #[.int i tk, x] } = g4
  have old4 : ∀ b o, g3.get? b = some o → g4.get? b = some o := fun b o y => hg ▸ Heap.get?_push_of_some _ y
  have tup4 : g4.get? hp.objs.size = some { cls := .type "tuple", data := .seq #[.int i tk, x] } := by
    rw [← hg, ← z3]
    exact Heap.get?_push_size _ rfl
  have z4 : g4.objs.size = hp.objs.size + 1 := by rw [← hg, Heap.size_push, z3]
  have q4 : IsEnum g4 e it ((i : Int) + 1) old := old4 _ _ q3
  rw [z3]
  refine wpAny_bind (m := Builtin.SmallTypes.ownedTupleIsFree (.ref e)) ?_
  unfold Builtin.SmallTypes.ownedTupleIsFree
  refine wpAny_bind (wpAny_field q4 rfl (x := .none) rfl (wpAny_pure ?_))
  simp only [if_true]
  refine wpAny_bind (wpAny_rule (wpAny_bind (wpAny_field q4 rfl (x := old) rfl (wpAny_bind (wpAny_setField_rec q4 (by simp) fun g5 (q5 : IsEnum g5 e it ((i : Int) + 1) x) (b5 : Heap.SameBut e g4 g5) => ?_)))))
  refine wpAny_bind (m := Builtin.SmallTypes.ownedTupleHandOut (.ref e) (.ref hp.objs.size)) ?_
  unfold Builtin.SmallTypes.ownedTupleHandOut
  refine wpAny_bind (wpAny_setField_rec q5 (by simp) fun g6 (q6 : IsEnumOut g6 e it ((i : Int) + 1) x hp.objs.size) (b6 : Heap.SameBut e g5 g6) => ?_)
  refine wpAny_setField_rec q6 (by simp) fun g7 (q7 : IsEnumOut g7 e it ((i : Int) + 1) x hp.objs.size) (b7 : Heap.SameBut e g6 g7) => ?_
  have b47 : ∀ b o, b ≠ e → g4.get? b = some o → g7.get? b = some o := fun b o n y => b7.extBut b o n (b6.extBut b o n (b5.extBut b o n y))
  refine wpAny_bind (wpAny_letGo (wpAny_pure ⟨_, rfl, k g7 q7 (hP g1 g7 p1 fun b o n y => b47 b o n (old4 b o (b13 b o n y))) (b47 _ _ (Nat.ne_of_gt lt) tup4) ?_ fun b o n m y => b47 b o n (old4 b o (b13 b o n (b1.extBut b o m y)))⟩))
  rw [b7.1, b6.1, b5.1, z4]
theorem jf_enumT {Q : Option Value → Shared → Prop} (he : IsEnum s.heap e it i old) (a : s.heap.IsTupleIter it t i) (b : s.heap.IsTuple t items) (hx : items[i]? = some x) (hne : e ≠ it)
    (k : ∀ h', IsEnumOut h' e it ((i : Int) + 1) x s.heap.objs.size → h'.IsTupleIter it t (i + 1) → h'.get? s.heap.objs.size = some { cls := .type "tuple", data := .seq #[.int i s.toks, x] } → h'.objs.size = s.heap.objs.size + 1 →
      (∀ b o, b ≠ e → b ≠ it → s.heap.get? b = some o → h'.get? b = some o) → Q (some (.ref s.heap.objs.size)) { s with heap := h', toks := s.toks + 1 }) : wpAny (model prog w) A (pyNext (.ref e)) Q E s := by
  have T : s.TypeIs (.ref e) "enumerate" := ⟨_, he, rfl⟩
  unfold pyNext
  refine wpAny_bind (wpAny_attempt (wpAny_callSpecial?_slot (name := Str.ofString "__next__") T F.slot_enumerate_next (wpAny_call_entry F.slot_enumerate_next T F.entry_enumerate_next
    (jf_enum (P := fun h => h.IsTupleIter it t (i + 1)) he hne (fun q => jf_next a b hx q) (fun h h' p y => ?_) fun h' c1 c2 c3 c4 c5 => wpAny_pure (k h' c1 c2 c3 c4 c5)) (F.args_enumerate_next_1 _))))
  obtain ⟨o, h1, h2⟩ := p
  exact ⟨o, y it o hne.symm h1, h2⟩
theorem jf_enumE {Q : Option Value → Shared → Prop} (hh : A.handled = none) (he : IsEnum s.heap e it i old) (a : s.heap.IsTupleIter it t i) (b : s.heap.IsTuple t items) (hx : items[i]? = none) (k : ∀ h', Heap.ExtBut it s.heap h' → Q none { s with heap := h' }) :
    wpAny (model prog w) A (pyNext (.ref e)) Q E s := by
  have T : s.TypeIs (.ref e) "enumerate" := ⟨_, he, rfl⟩
  unfold pyNext
  refine wpAny_bind (wpAny_attempt (wpAny_callSpecial?_slot (name := Str.ofString "__next__") T F.slot_enumerate_next (wpAny_call_entry F.slot_enumerate_next T F.entry_enumerate_next
    (wpAny_bind (m := field (.ref e) 2) (wpAny_field he rfl (x := .ref it) rfl (wpAny_bind (jf_none hh a b hx fun h' y g ⟨o, g1, g2⟩ => ?_)))) (F.args_enumerate_next_1 _))))
  exact wpAny_bind (wpAny_isInstance (T := "StopIteration") (b := true) ⟨o, g1, g2⟩ isSubtype_stop (wpAny_pure (k _ g)))
end
/-- enumerate(t) -/
theorem jf_newT (t : Addr) (o : Obj) (items : Array Value) (n : Nat) (hc : o.cls = .type "tuple") (hd : o.data = .seq items n) :
    Meets (Builtin.«enumerate.__new__» ⟨[.type "enumerate", .ref t], []⟩) (fun _ R s => s.heap.get? t = some o ∧
      R (.ok (.ret (.ref (s.heap.push { cls := .type "tuple_iterator", data := .fields #[.ref t, .int 0 0] }).objs.size)))
        { s with heap := (s.heap.push { cls := .type "tuple_iterator", data := .fields #[.ref t, .int 0 0] }).push { cls := .type "enumerate", data := .fields #[.none, .bool false, .ref s.heap.objs.size, rawInt 0, .none, .none] } }) :=
  .of_wp fun prog w A R s h => by
    obtain ⟨hp, g, dr, tk, os⟩ := s
    obtain ⟨ht, h⟩ := h
    have sub := sub_enumerate
    have hT : Heap.IsTuple (Shared.heap ⟨hp, g, dr, tk, os⟩) t items := ⟨_, ht, hc, n, hd⟩
    wp_walk using wpAny_loadPart' ht
    refine wpAny_stack_any fun st => wpAny_pure ?_
    split
    · rename_i c _ _ _ _ _
      cases (c == Value.type "enumerate") <;>
      · wp_walk using wpAny_loadPart' ht, wpAny_pyIter_tuple hT
        exact ⟨_, rfl, h⟩
    · wp_walk using wpAny_loadPart' ht, wpAny_pyIter_tuple hT
      exact ⟨_, rfl, h⟩
theorem jf_callT {prog : Program} {w : World} {A : Around} {E : Value → Shared → Prop} {s : Shared} {t : Addr} {items : Array Value} {Q : Value → Shared → Prop} (hT : s.heap.IsTuple t items)
    (h : ∀ h', IsEnum h' (s.heap.objs.size + 1) s.heap.objs.size 0 .none → h'.IsTupleIter s.heap.objs.size t 0 → h'.objs.size = s.heap.objs.size + 2 → (∀ b o, s.heap.get? b = some o → h'.get? b = some o) → Q (.ref (s.heap.objs.size + 1)) { s with heap := h' }) :
    wpAny (model prog w) A (call (.type "enumerate") [.ref t]) Q E s := by
  obtain ⟨o, ho, hc, n, hd⟩ := hT
  refine callType_new F.called_enumerate (by decide) (F.typeCall_enumerate_1 _) (F.newCall_enumerate_1 _) (fun obj => F.args_object_init_2 obj _) F.entry_enumerate_new (jf_newT t o items n hc hd) ⟨ho, ?_⟩
  have z : (s.heap.push { cls := .type "tuple_iterator", data := .fields #[.ref t, .int 0 0] }).objs.size = s.heap.objs.size + 1 := Heap.size_push ..
  show _ ∧ _
  rw [z]
  have he := Heap.get?_push_size (s.heap.push { cls := .type "tuple_iterator", data := .fields #[.ref t, .int 0 0] }) (o := { cls := .type "enumerate", data := .fields #[.none, .bool false, .ref s.heap.objs.size, rawInt 0, .none, .none] }) rfl
  rw [z] at he
  exact ⟨⟨_, he, rfl⟩, h _ he ⟨_, Heap.get?_push_of_some _ (Heap.get?_push_size _ rfl), rfl, rfl⟩ (by rw [Heap.size_push, z]) fun b o y => Heap.get?_push_of_some _ (Heap.get?_push_of_some _ y)⟩
end PySem
namespace Jf
open PySem PySem.Spec PyProof.Rows L2 Evl
/-- the tuple at a, each item in a new pair with its number -/
def IteT (K : PySem.W.Frag) (a : Addr) : It :=
  ⟨fun i H => ∃ (xs : List V) (x : V), SqT K H a xs ∧ xs[i]? = some x, fun i H v H' => ∃ T x, v = .ref T ∧ H T = none ∧ H' = upd H T (.tup [.int (i : Nat), x]) ∧ ∀ xs, SqT K H a xs → xs[i]? = some x, fun i H => ∃ xs : List V, SqT K H a xs ∧ xs.length ≤ i⟩
theorem turn_enumT {P : Program} {w : World} {K : PySem.W.Frag} {elts : List Expr} {kk : Nat} {tpos : Pos} (a e it : Addr) :
    Turn P w K (.Tuple elts kk tpos) (IteT K a) [e, it] e (fun i h => (∃ old, IsEnum h e it ((i : Nat) : Int) old) ∧ h.IsTupleIter it a i ∧ e ≠ it) where
  mem := by simp
  obj := fun i h st b hb => by
    obtain ⟨⟨old, he⟩, ⟨o, ho, _, hd⟩, _⟩ := st
    rcases List.mem_cons.mp hb with rfl | hb
    · exact ⟨_, he, fun v q => nomatch q⟩
    · rw [List.mem_singleton.mp hb]
      exact ⟨o, ho, fun v q => by rw [hd] at q; cases q⟩
  keep := fun i h h' st k => by
    obtain ⟨⟨old, he⟩, ⟨o, ho, hr⟩, ne⟩ := st
    exact ⟨⟨old, k e (by simp) _ he⟩, ⟨o, k it (by simp) o ho, hr⟩, ne⟩
  item := by
    intro X hP hw hK hc i pins s σ H E I hf st hg
    subst hP hw hK
    obtain ⟨⟨old, he⟩, hit, ne⟩ := st
    obtain ⟨xs, x, hq, hx⟩ := hg
    obtain ⟨its, rv, tp, _⟩ := I.tuple hq
    obtain ⟨u, hu, ru⟩ := rv.get hx
    have le : e < s.heap.objs.size := Heap.lt_size he
    have li : it < s.heap.objs.size := by
      obtain ⟨_, q, _⟩ := hit
      exact Heap.lt_size q
    refine jf_enumT he hit tp (x := u) (by simpa using hu) ne fun h1 c1 c2 c3 c4 c5 => ⟨_, rfl, wpAny_letOwnedTupleGo_enum (s := { s with heap := h1, toks := s.toks + 1 }) c1 fun h2 d1 d2 => ?_⟩
    have at2 : h2.get? s.heap.objs.size = some { cls := .type "tuple", data := .seq #[.int i s.toks, u] } := (d2.2 _ (Nat.ne_of_gt le)).trans c3
    have I2 : Inv X pins σ (upd H s.heap.objs.size (.tup [.int (i : Nat), x])) { s with heap := h2, toks := s.toks + 1 } := by
      refine I.turnedNew (ch := [e, it]) (fun b o hb q => ?_) hf (Nat.le_refl _) ⟨by show 2 ≤ sizeLine; decide, [.int i s.toks, u], .cons ⟨_, rfl⟩ (.cons ru .nil), ⟨_, at2, rfl, _, rfl⟩⟩
      simp only [List.mem_cons, List.not_mem_nil, or_false, not_or] at hb
      exact (d2.2 b hb.1).trans (c5 b o hb.1 hb.2 q)
    refine ⟨.ref s.heap.objs.size, _, I2, rfl, ⟨_, x, rfl, I.hok.fresh (Nat.le_refl _), rfl, fun ys hy => by rw [I.tuple_inj hy hq]; exact hx⟩, ⟨⟨u, ?_⟩, ?_, ne⟩, fun b hb => ?_⟩
    · rw [show ((i + 1 : Nat) : Int) = (i : Int) + 1 by omega]
      exact d1
    · obtain ⟨o, g1, g2⟩ := c2
      exact ⟨o, (d2.2 it ne.symm).trans g1, g2⟩
    · have lb : b < s.heap.objs.size := by
        rcases List.mem_cons.mp hb with rfl | hb
        · exact le
        · rw [List.mem_singleton.mp hb]
          exact li
      rw [upd_ne (Nat.ne_of_lt lb)]
      exact (hf b hb).1
  done := by
    intro X hP hw hK hc i pins s σ H E I hf st hg
    subst hP hw hK
    obtain ⟨⟨old, he⟩, hit, _⟩ := st
    obtain ⟨xs, hq, hx⟩ := hg
    obtain ⟨its, rv, tp, _⟩ := I.tuple hq
    obtain ⟨f0, f1, f2, f3, f4, f5⟩ := hf it (by simp)
    have := rv.length
    exact jf_enumE (I.ok.hd hc) he hit tp (by simp; omega) fun h' g => ⟨rfl, I.turned (t' := s.toks) (fun b o hb q => g b o hb q) f0 f1 f3 f4 f5⟩
  self := fun A i s Q E st h => by
    obtain ⟨⟨_, he⟩, _⟩ := st
    exact wpAny_pyIter_enum he h
def iEnumT (K : PySem.W.Frag) (ta : TA) : TI := fun σ H R => ta σ H fun vs H1 => ∃ a xs, vs = [.ref a] ∧ SqT K H1 a xs ∧ R (IteT K a) H1
theorem pi_enumT {X : Cx} {e : Expr} {ta : TA} {p pos tpos : Pos} {elts : List Expr} {kk : Nat} (hg : Gl X "enumerate") (hm : X.mg "enumerate" = none) (ha : PA X [e] ta) (hs : starEach [e] X.env = [(false, eval e X.env)] := by rfl) :
    PI X (.Tuple elts kk tpos) (.Call (.Name "enumerate" p) [e] [] pos) (iEnumT X.K ta) := by
  refine ⟨fun pins s σ H R I h => ?_⟩
  refine Call_ (ld_blt I hg hm boot_enumerate (PyProof.Rows.callWith_type1 (thn (ha.run pos pins s σ H _ I h) fun us s1 ⟨vs, H1, I1, r1, a, xs, ex, hq, q⟩ => ?_) hs rfl))
  subst ex
  obtain ⟨u, rfl, ru⟩ := vals1 r1
  cases ru
  obtain ⟨its, _, tp, _⟩ := I1.tuple hq
  refine jf_callT tp fun h' c1 c2 c3 c4 => wpAny_pyIter_enum c1 ⟨s1.heap.objs.size + 1, [s1.heap.objs.size + 1, s1.heap.objs.size], _, _, H1, rfl, I1.kept (t' := s1.toks) c4, turn_enumT a (s1.heap.objs.size + 1) s1.heap.objs.size, ⟨⟨.none, c1⟩, c2, Nat.succ_ne_self _⟩, fun b hb => ?_, q⟩
  have hle : s1.heap.objs.size ≤ b := by
    rcases List.mem_cons.mp hb with rfl | hb
    · exact Nat.le_succ _
    · rw [List.mem_singleton.mp hb]
      exact Nat.le_refl _
  exact I1.fpOk hle (I1.hok.fresh hle)
end Jf
set_option Elab.async false
set_option linter.all false
set_option maxRecDepth 100000
set_option maxHeartbeats 4000000
namespace Jf
open PySem PySem.Spec PyProof.Rows L2 Evl GxR GenW
/-! ### all(e for .. in an iterable of any kind that the layer walks), e of any kind that it reads -/
/-- the inner scope: its names, nothing captured -/
structure ManyN (scope : Scope) (xs : List Str) : Prop where
  kind : scope.kind = .function
  co : scope.isCoroutine = false
  cell : ∀ y ∈ scope.names, y.2 ≠ .cell
  dot : scope.names.lookup (".0" : Str) = some NameKind.local
  free : ∀ y ∈ scope.names, y.2 ≠ .free
/-- the inner context: the callers' frames behind it, the walked objects free to turn -/
def gyOf (X : Cx) (xs : List Str) (s : Shared) (H : Hp) (cenv : Env) (B : Around) (fp : List Addr) : Cx where
  prog := X.prog
  w := X.w
  K := X.K
  mg := X.mg
  base := X.base
  A := B
  N := ".0" :: xs
  s_0 := s
  H_0 := H
  env := cenv
  outer := X.stack
  stack := cenv :: X.stack
  ex := fp
  fn := fun _ => true
  calm := true
  pn := []
  xe := fun _ _ => False
/-- the reading: from the left, till one says no -/
def rdAllI (g : TG) (te : TE) (J : It) (L : Nat) : Nat → Nat → Hp → (Bool → Hp → Prop) → Prop
  | 0, i, H, Q => J.stop i H ∧ Q true H
  | n + 1, i, H, Q => J.go i H ∧ ∀ x H1, J.yld i H x H1 → ∀ σ : L2.St, σ.length = L → σ[0]? = some none → g x σ H1 fun σ2 H2 => σ2.length = L ∧ σ2[0]? = some none ∧ te σ2 H2 fun r H3 => ∃ b, r = .bl b ∧ (b = true → rdAllI g te J L n (i + 1) H3 Q) ∧ (b = false → Q false H3)
/-- where the generator stands -/
def GInv2 (Y : Cx) (a : Addr) (go : Obj) (fp : List Addr) (tn : Nat → Heap → Prop) (L i : Nat) (H : Hp) (s : Shared) : Prop :=
  ∃ (σ : L2.St) (ps : List (Addr × Obj)), σ.length = L ∧ σ[0]? = some none ∧ ps.map (·.1) = fp ∧ tn i s.heap ∧ Inv Y ((a, go) :: ps) σ H s
def gProt2 (Y : Cx) (a : Addr) (go : Obj) (fp : List Addr) (tn : Nat → Heap → Prop) (L : Nat) (Q : Bool → Hp → Prop) : Protocol := fun _ _ v s kap =>
  ∃ b i H, v = .bool b ∧ GInv2 Y a go fp tn L i H s ∧ (b = false → Q false H) ∧ (b = true → ∀ s', s'.os = s.os → AllBare s'.gens → s'.heap = s.heap → kap (.send .none) s')
section
variable {Y : Cx} {a it : Addr} {go : Obj} {fp : List Addr} {tn : Nat → Heap → Prop} {L i : Nat} {H : Hp} {s s' : Shared}
theorem GInv2.woke (h : GInv2 Y a go fp tn L i H s) (o : s'.os = s.os) (g : AllBare s'.gens) (e : s'.heap = s.heap) : GInv2 Y a go fp tn L i H s' := by
  obtain ⟨σ, ps, l, z, c, d, J⟩ := h
  refine ⟨σ, ps, l, z, c, by rw [e]; exact d, J.call' (ch := []) o ?_ ?_ g fun b z => by simp at z⟩
  · rw [e]
    exact Un.kept fun _ _ q => q
  · rw [e]
    exact J.hok
theorem objs_of {h : Heap} : ∀ {fp : List Addr}, (∀ b ∈ fp, ∃ o, h.get? b = some o ∧ ∀ v, o.data ≠ .cell v) → ∃ ps : List (Addr × Obj), ps.map (·.1) = fp ∧ ∀ p ∈ ps, h.get? p.1 = some p.2 ∧ ∀ v, p.2.data ≠ .cell v
  | [], _ => ⟨[], rfl, fun _ z => nomatch z⟩
  | b :: fp, q => by
    obtain ⟨o, h1, h2⟩ := q b List.mem_cons_self
    obtain ⟨ps, h3, h4⟩ := objs_of fun c hc => q c (List.mem_cons_of_mem _ hc)
    refine ⟨(b, o) :: ps, by rw [List.map_cons, h3], fun p hp => ?_⟩
    rcases List.mem_cons.mp hp with rfl | hp
    · exact ⟨h1, h2⟩
    · exact h4 p hp
end
section
variable {Y : Cx} {Aw : Around} {elt iter tg : Expr} {pos : Pos} {scope : Scope} {a it : Addr} {go : Obj} {fp : List Addr} {tn : Nat → Heap → Prop} {J : It} {L : Nat} {te : TE} {g : TG} {Q : Bool → Hp → Prop}
theorem seg_itLoop (hA : Aw.handled = none) (hY : Y.A = Aw.over (.compLoop (.GeneratorExp elt [⟨tg, iter, [], 0⟩] scope pos) 0 (.ref it) .none Y.env) []) (hco : Y.env.scope.isCoroutine = false) (hcl : Y.env.cells = []) (hex : ∀ b ∈ fp, b ∈ Y.ex) (ha : a ∉ fp) (hpn : Y.pn = [])
    (hcalm : Y.calm = true) (hxe : Y.xe = fun _ _ => False) (T : Turn Y.prog Y.w Y.K tg J fp it tn) (hg : PG Y tg g) (hel : PE Y elt te) :
    ∀ (n i : Nat) (H : Hp) (s₀ s : Shared), GInv2 Y a go fp tn L i H s → rdAllI g te J L n i H Q →
      Seg (model Y.prog Y.w) Aw (gEnd Y Q) (gProt2 Y a go fp tn L Q) n s₀ (.compLoop (.GeneratorExp elt [⟨tg, iter, [], 0⟩] scope pos) 0 (.ref it) .none Y.env)
        ((model Y.prog Y.w).den (.compLoop (.GeneratorExp elt [⟨tg, iter, [], 0⟩] scope pos) 0 (.ref it) .none Y.env)) [] s := by
  have free : ∀ {σ : L2.St} {ps : List (Addr × Obj)} {i : Nat} {H : Hp} {s : Shared}, ps.map (·.1) = fp → Inv Y ((a, go) :: ps) σ H s → Inv Y [(a, go)] σ H s ∧ ∀ b ∈ fp, FpOk Y [(a, go)] H b := fun {σ ps i H s} hm I => by
    refine ⟨I.pins_of fun p hp => I.pin p (List.mem_append_right _ (by
      rw [List.mem_singleton] at hp
      rw [hp]
      exact List.mem_cons_self)), fun b hb => ?_⟩
    rw [← hm] at hb
    obtain ⟨p, hp, rfl⟩ := List.mem_map.mp hb
    have q := I.pin p (List.mem_append_right _ (List.mem_cons_of_mem _ hp))
    refine ⟨q.2.1, q.2.2.1, q.2.2.2.1, .inl (hex _ (hm ▸ List.mem_map.mpr ⟨p, hp, rfl⟩)), (fun x c e => by rw [hcl] at e; cases e), fun r hr z => ?_⟩
    rw [hpn, List.nil_append, List.mem_singleton] at hr
    subst hr
    exact ha (by rw [← hm]; exact List.mem_map.mpr ⟨p, hp, z.symm⟩)
  intro n
  induction n with
  | zero =>
    intro i H s₀ s hG hr
    obtain ⟨σ, ps, l, z, hm, ht, I⟩ := hG
    obtain ⟨I1, hf⟩ := free (i := i) hm I
    show Seg _ Aw _ _ _ s₀ _ ((compTurn (.GeneratorExp elt [⟨tg, iter, [], 0⟩] scope pos) 0 (.ref it) .none Y.env).onRaise (leaving Y.env)) [] s
    rw [compTurn_gen, Sem.onRaise_eq_wrap]
    refine seg_bind_wrap (wpAny_standAt ?_)
    refine seg_bind_wrap ?_
    rw [← hY]
    refine wpAny_mono (T.done Y rfl rfl rfl hcalm i [(a, go)] s σ H (fun _ _ => False) I1 hf ht hr.1) ?_ fun _ _ x => x.elim
    rintro r s1 ⟨rfl, I2⟩
    exact seg_end (.ok .next) (.inl ⟨.inr rfl, σ, H, I2.pins_of fun p hp => by simp at hp, hr.2⟩)
  | succ n ih =>
    intro i H s₀ s hG hr
    obtain ⟨σ, ps, l, z, hm, ht, I⟩ := hG
    obtain ⟨I1, hf⟩ := free (i := i) hm I
    have pa := I1.pin (a, go) (List.mem_append_right _ List.mem_cons_self)
    show Seg _ Aw _ _ _ s₀ _ ((compTurn (.GeneratorExp elt [⟨tg, iter, [], 0⟩] scope pos) 0 (.ref it) .none Y.env).onRaise (leaving Y.env)) [] s
    rw [compTurn_gen, Sem.onRaise_eq_wrap]
    refine seg_bind_wrap (wpAny_standAt ?_)
    refine seg_bind_wrap ?_
    rw [← hY]
    refine wpAny_mono (T.item Y rfl rfl rfl hcalm i [(a, go)] s σ H (fun _ _ => False) I1 hf ht hr.1) ?_ fun _ _ x => x.elim
    rintro r s1 ⟨u, rfl, w1⟩
    refine seg_bind_wrap ?_
    rw [← hY]
    refine wpAny_mono w1 ?_ fun _ _ x => x.elim
    rintro _ s2 ⟨x, H1, I2, ru, hy, ht2, hnone⟩
    obtain ⟨ps2, hm2, ho2⟩ := objs_of (T.obj (i + 1) s2.heap ht2)
    have I3 : Inv Y ((a, go) :: ps2) σ H1 s2 := I2.pins_of fun p hp => by
      rcases List.mem_cons.mp hp with rfl | hp
      · exact I2.pin _ (List.mem_append_right _ List.mem_cons_self)
      · have hb : p.1 ∈ fp := hm2 ▸ List.mem_map.mpr ⟨p, hp, rfl⟩
        obtain ⟨_, f1, f2, _⟩ := hf _ hb
        exact ⟨(ho2 p hp).1, hnone _ hb, f1, f2, (ho2 p hp).2⟩
    refine seg_bind_wrap ?_
    rw [← hY]
    refine wpAny_mono (hg.run _ _ σ H1 x u _ I3 ru (hr.2 x H1 hy σ l z)) ?_ fun e s' hx => by rw [hxe] at hx; exact hx.elim
    rintro _ s3 ⟨σ3, H3, I4, l3, z3, q3⟩
    refine seg_bind_wrap ?_
    simp only [List.forIn_nil]
    refine wpAny_pure ?_
    simp only [if_true]
    have hyo : ∀ v, yieldOut Y.env v = yieldValue v := fun v => by simp only [yieldOut, hco, Bool.false_eq_true, if_false]
    simp only [hyo]
    rw [Sem.bind_eq_wrap', Sem.bind_eq_wrap', Sem.wrap_wrap, Sem.wrap_wrap]
    refine seg_wrap ?_
    rw [← hY]
    refine wpAny_mono (hel.run _ _ _ _ _ I4 q3) (fun y s4 h4 => ?_) fun e s' hx => by rw [hxe] at hx; exact hx.elim
    obtain ⟨r, H4, I5, rr, b, rfl, htr, hfa⟩ := h4
    obtain rfl : y = Value.bool b := rr
    have G4 : GInv2 Y a go fp tn L (i + 1) H4 s4 := by
      refine ⟨σ3, ps2, l3, z3, hm2, T.keep (i + 1) s2.heap s4.heap ht2 fun b hb o e => ?_, I5⟩
      rw [← hm2] at hb
      obtain ⟨p, hp, rfl⟩ := List.mem_map.mp hb
      rw [(ho2 p hp).1] at e
      cases e
      exact (I5.pin p (List.mem_append_right _ (List.mem_cons_of_mem _ hp))).1
    refine seg_at (seg_yield rfl rfl rfl ⟨b, i + 1, H4, rfl, G4, hfa, fun hb s' o g e => ?_⟩)
    exact seg_again rfl (ih (i + 1) H4 s' s' (G4.woke o g e) (htr hb))
theorem seg_itStart (hA : Aw.handled = none) (hY : Y.A = Aw.over (.compLoop (.GeneratorExp elt [⟨tg, iter, [], 0⟩] scope pos) 0 (.ref it) .none Y.env) []) (hco : Y.env.scope.isCoroutine = false) (hcl : Y.env.cells = []) (hex : ∀ b ∈ fp, b ∈ Y.ex) (ha : a ∉ fp) (hpn : Y.pn = [])
    (hcalm : Y.calm = true) (hxe : Y.xe = fun _ _ => False) (T : Turn Y.prog Y.w Y.K tg J fp it tn) (hg : PG Y tg g) (hel : PE Y elt te) {n : Nat} {H : Hp} {s₀ s : Shared} (hG : GInv2 Y a go fp tn L 0 H s) (hr : rdAllI g te J L n 0 H Q) :
    Seg (model Y.prog Y.w) Aw (gEnd Y Q) (gProt2 Y a go fp tn L Q) n s₀ (.compStart (.GeneratorExp elt [⟨tg, iter, [], 0⟩] scope pos) 0 (.ref it) .none Y.env)
      ((model Y.prog Y.w).den (.compStart (.GeneratorExp elt [⟨tg, iter, [], 0⟩] scope pos) 0 (.ref it) .none Y.env)) [] s := by
  have again : Seg (model Y.prog Y.w) Aw (gEnd Y Q) (gProt2 Y a go fp tn L Q) n s₀ (.compStart (.GeneratorExp elt [⟨tg, iter, [], 0⟩] scope pos) 0 (.ref it) .none Y.env) (.pure (.again (.compLoop (.GeneratorExp elt [⟨tg, iter, [], 0⟩] scope pos) 0 (.ref it) .none Y.env))) [] s :=
    seg_again rfl (seg_itLoop hA hY hco hcl hex ha hpn hcalm hxe T hg hel n 0 H s₀ s hG hr)
  obtain ⟨σ, ps, l, z, hm, ht, I⟩ := hG
  show Seg _ Aw _ _ _ s₀ _ ((compStart _ 0 (.ref it) .none Y.env).onRaise (leaving Y.env)) [] s
  unfold compStart
  rw [Sem.onRaise_eq_wrap]
  apply seg_bind_wrap (m := ask)
  apply wpAny_askSetting
  split
  · exact again
  · apply seg_bind_wrap
    apply wpAny_rule
    apply seg_bind_wrap
    apply wpAny_standAt
    apply seg_bind_wrap
    exact T.self _ 0 s _ _ ht again
end
theorem all_loop2 {Y : Cx} {A : Around} {a : Addr} {fp : List Addr} {tn : Nat → Heap → Prop} {L : Nat} {go : Obj} {g : Nat} {R : Result → Shared → Prop} {Q : Bool → Hp → Prop} (hh : A.handled = none) (hd : A.depth < recursionLimit) (G : GenO go g)
    (fin : ∀ b σ H s, Inv Y [] σ H s → Q b H → R (.ok (.ret (.bool b))) s) :
    ∀ (n : Nat) (s : Shared), s.heap.get? a = some go → s.heap.NoLimit → (∃ gs, s.gens[g]? = some gs ∧ gs.Goes (model Y.prog Y.w) A.in1.in1 (gEnd Y Q) (gProt2 Y a go fp tn L Q) n (.send .none) (s.setGen g .running)) →
      codeAny (model Y.prog Y.w) A (.builtin "all.loop" ⟨[.ref a], []⟩) R s := by
  intro n
  induction n with
  | zero =>
    intro s ha hl ⟨gs, hgs, hgo⟩
    apply codeAny_builtin F.entry_all_loop
    rw [Around.under_plainId F.plain_all_loop _]
    show wpAny _ A.in1 (pyNext (.ref a) >>= _) _ _ s
    apply wpAny_bind
    apply next_genG (A := A.in1) (F := gDone Y Q) (Er := fun _ _ => False) hh hl hd (G.at ha) hgs hgo
    · intro v s1 gs' hb hv
      obtain ⟨b, i, H, rfl, hG, hf, ht⟩ := hv
      cases b with
      | true =>
        obtain ⟨_, _, _, _, _, _, J⟩ := hG
        exact False.elim (ht rfl s1 rfl J.bare rfl)
      | false =>
        obtain ⟨σ, io, _, _, _, _, J⟩ := hG
        apply wpAny_bind
        apply wpAny_holding
        apply wpAny_truthy_bool
        apply wpAny_bind
        apply wpAny_letGo
        show wpAny _ _ (rule _ >>= _) _ _ _
        apply wpAny_bind
        apply wpAny_rule
        apply wpAny_pure
        exact fin false σ H _ (inv_gens (J.pins_of fun p hp => by simp at hp) rfl (allBare_setGen J.bare hb) fun _ _ e => e) (hf rfl)
    · intro s1 hp h' hk
      obtain ⟨σ, H, J, q⟩ := hp
      show wpAny _ _ (rule _ >>= _) _ _ _
      apply wpAny_bind
      apply wpAny_rule
      apply wpAny_pure
      exact fin true σ H _ (inv_gens J rfl (allBare_setGen J.bare rfl) hk) q
    · intro e s1 he
      exact he.elim
  | succ n ih =>
    intro s ha hl ⟨gs, hgs, hgo⟩
    have hgl : g < s.gens.size := (Array.getElem?_eq_some_iff.mp hgs).1
    apply codeAny_builtin F.entry_all_loop
    rw [Around.under_plainId F.plain_all_loop _]
    show wpAny _ A.in1 (pyNext (.ref a) >>= _) _ _ s
    apply wpAny_bind
    apply wpAny_gsz (n := g + 1) hgl
    apply next_genG (A := A.in1) (F := gDone Y Q) (Er := fun _ _ => False) hh hl hd (G.at ha) hgs hgo
    · intro v s1 gs' hb hv hsz
      obtain ⟨b, i, H, rfl, hG, hf, ht⟩ := hv
      have hG' := hG
      obtain ⟨σ, io, _, _, _, _, J⟩ := hG'
      have pa := J.pin (a, go) (List.mem_append_right _ (by simp))
      apply wpAny_bind
      apply wpAny_holding
      apply wpAny_truthy_bool
      apply wpAny_bind
      apply wpAny_letGo
      cases b with
      | false =>
        show wpAny _ _ (rule _ >>= _) _ _ _
        apply wpAny_bind
        apply wpAny_rule
        apply wpAny_pure
        exact fin false σ H _ (inv_gens (J.pins_of fun p hp => by simp at hp) rfl (allBare_setGen J.bare hb) fun _ _ e => e) (hf rfl)
      | true =>
        simp only [if_true]
        have hsz1 : g < s1.gens.size := by
          have q : (s1.setGen g gs').gens.size = s1.gens.size := setGen_size _ _ _
          have : g + 1 ≤ (s1.setGen g gs').gens.size := hsz
          omega
        refine wpAny_pure ⟨plainId_quiet F.plain_all_loop _, ih (s1.setGen g gs') pa.1 J.nolimit ⟨gs', setGen_at hsz1, ?_⟩⟩
        exact ht rfl _ rfl (allBare_setGen (s := s1.setGen g gs') (allBare_setGen J.bare hb) rfl) rfl
    · intro s1 hp h' hk hsz
      obtain ⟨σ, H, J, q⟩ := hp
      show wpAny _ _ (rule _ >>= _) _ _ _
      apply wpAny_bind
      apply wpAny_rule
      apply wpAny_pure
      exact fin true σ H _ (inv_gens J rfl (allBare_setGen J.bare rfl) hk) q
    · intro e s1 he
      exact he.elim

theorem envs_loopI {elt iter tg : Expr} {pos : Pos} {scope : Scope} {it acc : Value} {env : Env} {A : Around} {l : List Env} (h : A.frames = some l) : (A.over (.compLoop (.GeneratorExp elt [⟨tg, iter, [], 0⟩] scope pos) 0 it acc env) []).frames = some (env :: l) := by
  show pushEnvs (Code.envs (.compLoop (.GeneratorExp elt [⟨tg, iter, [], 0⟩] scope pos) 0 it acc env)) (pushEnvs [] A.frames) = _
  rw [h]
  rfl
theorem room_loopI {k : Nat} {A : Around} {elt iter tg : Expr} {pos : Pos} {scope : Scope} {it acc : Value} {env : Env} (r : Room (k + 1) A) : Room k (A.in1.in1.over (.compLoop (.GeneratorExp elt [⟨tg, iter, [], 0⟩] scope pos) 0 it acc env) []) := by
  have h1 : (A.in1.in1.over (.compLoop (.GeneratorExp elt [⟨tg, iter, [], 0⟩] scope pos) 0 it acc env) []).depth = A.in1.in1.depth + 1 := rfl
  have h2 : (A.in1.in1.over (.compLoop (.GeneratorExp elt [⟨tg, iter, [], 0⟩] scope pos) 0 it acc env) []).units = A.in1.in1.units + 3 := rfl
  have h3 : A.in1.in1.depth = A.depth := rfl
  have h4 : A.in1.in1.units = A.units + 1 + 1 := rfl
  have h5 := r.dp
  have h6 := r.un
  exact ⟨r.hd, by rw [h1, h3]; omega, by rw [h2, h4]; omega⟩
section
variable {X : Cx} {pins : List (Addr × Obj)} {σ : L2.St} {H : Hp} {s : Shared}
/-- made, not begun; what its whole walk by all leaves -/
def ReadyI (X : Cx) (pins : List (Addr × Obj)) (σ : L2.St) (R : Nat → (Bool → Hp → Prop) → Prop) (n L : Nat) (a : Addr) (s5 : Shared) : Prop :=
  ∃ (go : Obj) (g : Nat) (fp : List Addr) (tn : Nat → Heap → Prop), GenO go g ∧ s5.heap.get? a = some go ∧ s5.heap.NoLimit ∧ g < s5.gens.size ∧ ∀ Q : Bool → Hp → Prop, R n Q → ∃ (Y : Cx),
    Y.prog = X.prog ∧ Y.w = X.w ∧ (∃ gs, s5.gens[g]? = some gs ∧ gs.Goes (model Y.prog Y.w) X.A.in1.in1 (gEnd Y Q) (gProt2 Y a go fp tn L Q) n (.send .none) (s5.setGen g .running)) ∧
    ∀ b σ' H' s', Inv Y [] σ' H' s' → Q b H' → ∃ H'', Inv X pins σ H'' s' ∧ Q b H''
theorem gen_it {c P : Addr} {elt iter tg : Expr} {xs : List Str} {gpos : Pos} {scope : Scope} {te : TE} {g : TG} {wi : TI} {k : Nat} {Q' : Value → Shared → Prop} {R : It → Nat → Hp → Prop}
    (hr : Room (k + 1) X.A) (TB : GxR.TabB X.base X.mg c P) (hcode : X.env.code = .ref c) (S : ManyN scope xs) (hi : PI X tg iter wi)
    (hg : ∀ (s : Shared) (H : Hp) (cenv : Env) (B : Around) (fp : List Addr), cenv.scope = scope → PG (gyOf X xs s H cenv B fp) tg g)
    (hel : ∀ (s : Shared) (H : Hp) (C : Addr) (code : Value) (I : Addr) (fp : List Addr), Room k (X.A.in1.in1.over (.compLoop (.GeneratorExp elt [⟨tg, iter, [], 0⟩] scope gpos) 0 (.ref I) .none (genEnv scope [] C code builtinsNs X.env)) []) →
      PE (gyOf X xs s H (genEnv scope [] C code builtinsNs X.env) (X.A.in1.in1.over (.compLoop (.GeneratorExp elt [⟨tg, iter, [], 0⟩] scope gpos) 0 (.ref I) .none (genEnv scope [] C code builtinsNs X.env)) []) fp) elt te)
    (hs : ∀ v, genFold iter X.env v = pure v) (I0 : Inv X pins σ H s)
    (h : wi σ H fun J H1 => GxR.TabG H1 P ∧ ∀ H2, GxR.Tabbed P H1 H2 → ∃ n, R J n H2)
    (hQ : ∀ J n H2 a s5, R J n H2 → ReadyI X pins σ (fun n Q => rdAllI g te J (xs.length + 1) n 0 H2 Q) n (xs.length + 1) a s5 → Q' (.ref a) s5) :
    wpAny (model X.prog X.w) X.A (eval (.GeneratorExp elt [⟨tg, iter, [], 0⟩] scope gpos) X.env) Q' X.xe s := by
  have hcl : closureFor scope X.env = pure [] := by
    rw [closure_ok fun y hy hf => absurd hf (S.free y hy), clo_none S.free]
  have hroom : X.A.depth < recursionLimit := by
    have := hr.dp
    omega
  apply wpAny_GeneratorExp_make S.co hcl S.cell S.dot S.kind hroom ?_ hs
  refine wpAny_mono (hi.run pins s σ H _ I0 h) (fun v s0 w0 => wpAny_mono w0 ?_ fun _ _ z => z) fun _ _ z => z
  rintro _ s1 ⟨it, fp, tn, J, H1, rfl, I1, T, st, hf, ⟨tb, hP, ht⟩, q1⟩
  refine ⟨I1.nolimit, ?_⟩
  have tabS : s1.heap.get? P = some { cls := .none, data := .fields tb } := I1.hok P _ hP
  have Plt : P < s1.heap.objs.size := Heap.lt_size tabS
  refine gcode (s2 := s1) hcode (TB.code.keeps fun b u e => I1.bk b u e) tabS ht fun code h3 n3 tb3 hx hsz hP3 hmore ht3 => ?_
  obtain ⟨bm, ob, e1, e2, e3, e4, e5, e6, e7, e8⟩ := TB.bm
  have cP : cStatics ≠ P := fun e => by
    obtain ⟨_, hns, _⟩ := I1.nolimit
    obtain ⟨o', es, ep, ho', hd', _⟩ := hns
    rw [e, tabS] at ho'
    cases ho'
    cases hd'
  apply wpAny_builtinsFor (m := X.mg) (by rw [I1.ok.glob]; exact (I1.mod.glob.keeps I1.bk).extBut hx TB.gP) e1 e2 (hx _ _ e4 (I1.bk _ _ e5)) e6 e7 e8
  intro h5 hns hsb
  obtain ⟨more, em⟩ := hmore
  subst em
  have I4 := GxR.inv_tab (more := more) (h' := h3) (g' := s1.gens) (d' := s1.drawn) (t' := n3) I1 hP hx hP3 I1.bare
  generalize hgo : ({ cls := .type "generator", data := .fields #[.int s1.gens.size 0, .str "<genexpr>" (n3 + 1), .str (X.env.qual ++ "<genexpr>") (n3 + 1 + 1)] } : Obj) = go
  have GO : GenO go s1.gens.size := by
    subst hgo
    exact ⟨rfl, ⟨_, _, rfl⟩, rfl⟩
  have k5 : ∀ b u, h3.get? b = some u → h5.get? b = some u := fun b u e => hsb.extBut b u (Nat.ne_of_lt (Heap.lt_size e)) (Heap.get?_push_of_some _ e)
  have k6 : ∀ b u, h3.get? b = some u → (h5.push go).get? b = some u := fun b u e => Heap.get?_push_of_some _ (k5 b u e)
  have sz5 : h5.objs.size = h3.objs.size + 1 := by rw [hsb.1, Heap.size_push]
  have hga : (h5.push go).get? h5.objs.size = some go := by
    subst hgo
    exact Heap.get?_push_size _ rfl
  have god : ∀ v, go.data ≠ .cell v := fun v q => by
    obtain ⟨nm, qn, d⟩ := GO.data
    rw [d] at q
    cases q
  -- the walked objects
  have fpP : ∀ b ∈ fp, b ≠ P := fun b hb z => by
    have := (hf b hb).1
    rw [z, hP] at this
    cases this
  have lt1 : ∀ b ∈ fp, b < s1.heap.objs.size := fun b hb => by
    obtain ⟨o, e, _⟩ := T.obj 0 s1.heap st b hb
    exact Heap.lt_size e
  have k3 : ∀ b ∈ fp, ∀ o, s1.heap.get? b = some o → h3.get? b = some o := fun b hb o e => hx b o (fpP b hb) e
  have lt3 : ∀ b ∈ fp, b < h3.objs.size := fun b hb => by
    obtain ⟨o, e, _⟩ := T.obj 0 s1.heap st b hb
    exact Heap.lt_size (k3 b hb o e)
  have none2 : ∀ b ∈ fp, (upd H1 P (.tbl (tb ++ more))) b = none := fun b hb => by
    rw [upd_ne (fpP b hb)]
    exact (hf b hb).1
  have nst : ∀ b ∈ fp, b ∉ frs X.stack := fun b hb hm => by
    rcases List.mem_cons.mp (I1.stkSub b hm) with z | z
    · exact (hf b hb).2.1 z
    · exact (hf b hb).2.2.1 z
  have nstN : ∀ b, h3.objs.size ≤ b → b ∉ frs X.stack := fun b hb hm => by
    rcases List.mem_cons.mp (I4.stkSub b hm) with z | z
    · rw [z] at hb
      exact absurd (Nat.lt_of_lt_of_le I4.lt hb) (Nat.lt_irrefl _)
    · exact I4.nofs hb z
  have st3 : tn 0 h3 := T.keep 0 s1.heap h3 st k3
  have st6 : tn 0 (h5.push go) := T.keep 0 h3 (h5.push go) st3 fun b _ o e => k6 b o e
  obtain ⟨ps, hm, ho⟩ := objs_of (T.obj 0 _ st6)
  have aN : h5.objs.size ∉ fp := fun z => by
    have q : h5.objs.size < h3.objs.size := lt3 _ z
    rw [sz5] at q
    exact Nat.not_succ_lt_self q
  obtain ⟨n, qn⟩ := q1 _ ⟨⟨_, upd_same, ht3⟩, fun b hb => upd_ne hb⟩
  refine hQ J n _ _ _ qn ⟨go, s1.gens.size, fp, tn, GO, hga, I4.nolimit.keeps k6, by show _ < (s1.gens.push _).size; rw [Array.size_push]; exact Nat.lt_succ_self _, fun Q hrd => ?_⟩
  have KY : (gyOf X xs { s1 with heap := h3, gens := s1.gens, drawn := s1.drawn, toks := n3 } (upd H1 P (.tbl (tb ++ more))) (genEnv scope [] h3.objs.size code builtinsNs X.env)
      (X.A.in1.in1.over (.compLoop (.GeneratorExp elt [⟨tg, iter, [], 0⟩] scope gpos) 0 (.ref it) .none (genEnv scope [] h3.objs.size code builtinsNs X.env)) []) fp).Ok := by
    refine ⟨I4.ok.mod, S.kind, I4.ok.glob, rfl, Nat.le_refl _, fun y z c e _ => (by cases e), fun y hy => ?_, fun y c _ e => (by cases e), fun _ => hr.hd, envs_loopI I4.ok.frames, .inr ⟨rfl, rfl⟩, fun b hb => ⟨Nat.ne_of_lt (lt3 b hb), fun y c e => (by cases e)⟩, fun b o e => I4.bs b o e, Nat.le_trans I4.ok.bsz I4.sz, fun b o e hb => ?_, fun b hb => nst b hb, I4.stack, I4.stkFree⟩
    · have hy' : scope.names.lookup y = some .cell ∨ scope.names.lookup y = some .free := hy
      rcases hy' with z | z
      · exact absurd rfl (S.cell _ (PySem.mem_of_lookup z))
      · exact absurd rfl (S.free _ (PySem.mem_of_lookup z))
    · rcases (hf b hb).2.2.2.1 with z | z
      · exact I1.ok.noex b o e z
      · exact absurd (Nat.lt_of_lt_of_le (Heap.lt_size e) (Nat.le_trans I1.ok.bsz z)) (Nat.lt_irrefl _)
  refine ⟨gyOf X xs { s1 with heap := h3, gens := s1.gens, drawn := s1.drawn, toks := n3 } (upd H1 P (.tbl (tb ++ more))) (genEnv scope [] h3.objs.size code builtinsNs X.env)
      (X.A.in1.in1.over (.compLoop (.GeneratorExp elt [⟨tg, iter, [], 0⟩] scope gpos) 0 (.ref it) .none (genEnv scope [] h3.objs.size code builtinsNs X.env)) []) fp, rfl, rfl,
    ⟨_, Array.getElem?_push_size .., rfl, seg_itStart (Aw := X.A.in1.in1) hr.hd rfl S.co rfl (fun b hb => hb) aN rfl rfl rfl T (hg _ _ _ _ _ rfl) (hel _ _ _ _ _ _ (room_loopI hr)) ⟨List.replicate (xs.length + 1) none, ps, List.length_replicate .., by simp, hm, st6, ?_⟩ hrd⟩,
    fun b σ' H' s' J q => ⟨H', I4.call' (ch := fp) J.os J.base J.hok J.bare fun b hb => ⟨(hf b hb).2.2.2.1, (hf b hb).2.1, (hf b hb).2.2.2.2.1, (hf b hb).2.2.2.2.2⟩, q⟩⟩
  refine ⟨KY, rfl, allBare_setGen (AllBare.push I1.bare rfl) rfl, Un.kept k6, ⟨_, hns.push _, fun i y v _ h2 _ => ?_⟩, fun y c e => (by cases e), I4.hok.fresh (Nat.le_refl _), fun y c e => (by cases e), fun p hp => ?_, I4.hok.kept k6, ?_⟩
  · have h2' : (List.replicate (xs.length + 1) (none : Option V))[i]? = some (some v) := h2
    rw [List.getElem?_replicate] at h2'
    split at h2' <;> cases h2'
  · rcases List.mem_cons.mp (show p ∈ (h5.objs.size, go) :: ps from hp) with rfl | hp
    · exact ⟨hga, I4.hok.fresh (show h3.objs.size ≤ h5.objs.size by omega), (by show h5.objs.size ≠ h3.objs.size; omega), nstN _ (show h3.objs.size ≤ h5.objs.size by omega), god⟩
    · have hb : p.1 ∈ fp := hm ▸ List.mem_map.mpr ⟨p, hp, rfl⟩
      exact ⟨(ho p hp).1, none2 _ hb, Nat.ne_of_lt (lt3 _ hb), nst _ hb, (ho p hp).2⟩
  · show (List.replicate (xs.length + 1) (none : Option V)).length = ((".0" : Str) :: xs).length
    rw [List.length_replicate]
    rfl
end
/-- all(e for .. in ..): the def's table may have grown when the first is asked -/
def tAllI (P : Addr) (g : TG) (te : TE) (wi : TI) (L : Nat) : TE := fun σ H Q => wi σ H fun J H1 => GxR.TabG H1 P ∧ ∀ H2, GxR.Tabbed P H1 H2 → ∃ n, rdAllI g te J L n 0 H2 fun b H' => Q (.bl b) H'

section
variable {X : Cx}
theorem pe_allI {c P : Addr} {elt iter tg : Expr} {xs : List Str} {p pos gpos : Pos} {scope : Scope} {te : TE} {g : TG} {wi : TI} {k : Nat}
    (hr : Room (k + 1) X.A) (hgl : Gl X "all") (hm : X.mg "all" = none) (TB : GxR.TabB X.base X.mg c P) (hcode : X.env.code = .ref c) (S : ManyN scope xs) (hi : PI X tg iter wi)
    (hg : ∀ (s : Shared) (H : Hp) (cenv : Env) (B : Around) (fp : List Addr), cenv.scope = scope → PG (gyOf X xs s H cenv B fp) tg g)
    (hel : ∀ (s : Shared) (H : Hp) (C : Addr) (code : Value) (I : Addr) (fp : List Addr), Room k (X.A.in1.in1.over (.compLoop (.GeneratorExp elt [⟨tg, iter, [], 0⟩] scope gpos) 0 (.ref I) .none (genEnv scope [] C code builtinsNs X.env)) []) →
      PE (gyOf X xs s H (genEnv scope [] C code builtinsNs X.env) (X.A.in1.in1.over (.compLoop (.GeneratorExp elt [⟨tg, iter, [], 0⟩] scope gpos) 0 (.ref I) .none (genEnv scope [] C code builtinsNs X.env)) []) fp) elt te)
    (hs : ∀ v, genFold iter X.env v = pure v) (hb : bootBuiltins "all" = some (.builtin "all") := by decide +kernel)
    (he : starEach [.GeneratorExp elt [⟨tg, iter, [], 0⟩] scope gpos] X.env = (false, eval (.GeneratorExp elt [⟨tg, iter, [], 0⟩] scope gpos) X.env) :: starEach [] X.env := by rfl) :
    PE X (.Call (.Name "all" p) [.GeneratorExp elt [⟨tg, iter, [], 0⟩] scope gpos] [] pos) (tAllI P g te wi (xs.length + 1)) := by
  constructor
  intro pins s σ H Q I want
  have hroom : X.A.depth < recursionLimit := by
    have := hr.dp
    omega
  apply wpAny_Call_Name_kw (ld_blt I hgl hm hb ?_)
  apply PyProof.Rows.callWith_builtin1 ?_ he (by rfl)
  rw [he]
  show wpAny _ _ (spliced ((false, eval (.GeneratorExp elt [⟨tg, iter, [], 0⟩] scope gpos) X.env) :: backTo pos (starEach [] X.env))) _ _ s
  apply Calls.spliced_cons (gen_it (R := fun J n H2 => rdAllI g te J (xs.length + 1) n 0 H2 fun b H' => Q (.bl b) H') hr TB hcode S hi hg hel hs I want ?_)
  intro J n H2 a s5 k5 ready
  obtain ⟨go, gi, fp, tn, GO, ha, lim, _, fin⟩ := ready
  obtain ⟨Y, eP, eW, hgo, back⟩ := fin _ k5
  apply Calls.spliced_nil
  apply call_function_tree F.kind_all F.plain_all F.entry_all (F.args_all1 _)
  unfold Builtin.«all»
  refine wpAny_bind (m := oneArg "all" _) (wpAny_pure ?_)
  refine wpAny_bind (wpAny_pyIter_gen (GO.at ha) ?_)
  refine wpAny_pure ⟨plainId_quiet F.plain_all_loop _, ?_⟩
  have key := all_loop2 (Y := Y) (A := X.A) (fp := fp) (tn := tn) (L := xs.length + 1) (R := fun r s' => match r with | .ok (.ret v) => EP X pins σ Q v s' | .ok _ => False | .error e => X.xe e s') hr.hd hroom GO (fun b σ' H' s' J q => by
    obtain ⟨H'', J2, q2⟩ := back b σ' H' s' J q
    exact ⟨.bl b, H'', J2, rfl, q2⟩) n s5 ha lim hgo
  rw [eP, eW] at key
  exact key
end
section
variable {X : Cx}
theorem pg_two {x1 x2 : Str} {s : Shared} {H : Hp} {cenv : Env} {B : Around} {fp : List Addr} {scope : Scope} {p1 p2 pos : Pos} {n : Nat} (ec : cenv.scope = scope) (nd : List.Nodup [(".0" : Str), x1, x2]) (h1 : scope.names.lookup x1 = some .local) (h2 : scope.names.lookup x2 = some .local) :
    PG (gyOf X [x1, x2] s H cenv B fp) (.Tuple [.Name x1 p1, .Name x2 p2] n pos) (gTup X.K 2 (gCons (gName 1) (gCons (gName 2) gNil))) := by
  subst ec
  exact pg_tup (X := gyOf X [x1, x2] s H cenv B fp) rfl (pgs_cons (pg_name (X := gyOf X [x1, x2] s H cenv B fp) (i := 1) nd rfl (Or.inl h1)) (pgs_cons (pg_name (X := gyOf X [x1, x2] s H cenv B fp) (i := 2) nd rfl (Or.inl h2)) pgs_nil))
end
end Jf
set_option Elab.async false
set_option linter.all false
set_option maxRecDepth 100000
set_option maxHeartbeats 4000000
namespace PySem.W
open Lean Elab Tactic Meta PySem PySem.Calls PyProof.Rows Builtin Builtin.ObjectAttr Builtin.Getset_descriptor PyProof.V PySem.Spec
section
variable {prog : Program} {w : World} {A : Around} {E : Value → Shared → Prop} {s : Shared} {K : Frag} {x C : Addr} {ox : Obj} {od : Option Obj} {R : Result → Shared → Prop}
/-- an attribute of an error of the program's own class is asked of BaseException's own reader -/
theorem jf_asks {name : Str} {gt : Option Value} {ex : Bool} {Q : Value → Shared → Prop} (X : K.In s.heap) (I : InstAt s.heap x ox C od)
    (h1 : findIn K (.ref C) "__getattribute__" = some (some (.builtin "BaseException.__getattribute__"))) (h2 : findIn K (.ref C) "__getattr__" = some gt) (h3 : subIn K (.ref C) (.type "BaseException") = some true)
    (go : ∀ B : Around, wpAny (model prog w) B (Builtin.«object.__getattribute__» ⟨[.ref x, .str name s.toks], []⟩) (fun f s' => ∃ v, f = .done (.ret v) ∧ handedIn v = true ∧ Q v s') (fun _ _ => False) { s with toks := s.toks + 1 }) :
    wpAny (model prog w) A (getAttr (.ref x) name ex) Q E s := by
  have same : (onTheHeap (Value.ref C) && (.builtin "BaseException.__getattribute__" : Value) == .builtin "object.__getattribute__") = false := by
    rw [show ((.builtin "BaseException.__getattribute__" : Value) == .builtin "object.__getattribute__") = false from by decide +kernel]
    rfl
  have ofB : Looks (model prog w) s.heap (isInstance (.ref x) (.type "BaseException")) true := (I.type (M := model prog w)).andThen (looks_subIn X h3)
  have byB := PySem.F.excAttr_ValueError.ga
  unfold getAttr getAttrBy
  refine wpAny_bind (wpAny_mkText (wpAny_holding (wpAny_bind ((I.type (M := model prog w)).at (wpAny_bind ((looks_findIn X h1).at ?_))))))
  dsimp only
  rw [same, if_neg (by decide)]
  unfold getAttrByItsOwn hookBefore
  refine wpAny_bind ?_
  rw [if_pos (by rfl : onTheHeap (Value.ref C) = true)]
  refine (looks_findIn X h2).at (wpAny_bind (wpAny_attempt (wpAny_holding ?_)))
  unfold callGetattribute
  rw [if_neg (by cases ex <;> exact Bool.false_ne_true : ¬ (ex && onTheHeap (Value.builtin "BaseException.__getattribute__")) = true)]
  unfold boundAndCalled
  rw [byB.bind (.ref x)]
  refine wpAny_bind (wpAny_pure (wpAny_call (codeAny_call_builtin byB.plain PySem.F.entry_bexc_ga ?_)))
  refine check_slot (s := { s with toks := s.toks + 1 }) (i := "BaseException.__getattribute__") (owner := "BaseException") (n := "__getattribute__") (by decide +kernel) (by decide +kernel) ofB (PySem.F.args_bexc_ga (.ref x) (.str name s.toks)) ?_
  refine wpAny_mono (go _) (fun f s' hf => ?_) fun _ _ z => z.elim
  obtain ⟨v, rfl, hv, q⟩ := hf
  exact handed_on hv q
/-- its class -/
theorem jf_classX {gt : Option Value} {expr : Bool} {Q : Value → Shared → Prop} (X : K.In s.heap) (I : InstAt s.heap x ox C od) (h1 : findIn K (.ref C) "__getattribute__" = some (some (.builtin "BaseException.__getattribute__"))) (h2 : findIn K (.ref C) "__getattr__" = some gt)
    (h3 : subIn K (.ref C) (.type "BaseException") = some true) (h4 : findObj K C od "__class__" = some (.bind (.builtin "getset_descriptor.__get__") (.builtin "object.__class__"))) (h5 : mroIn K C (.type "object") = some true)
    (q : Q (.ref C) { s with toks := s.toks + 1 }) : wpAny (model prog w) A (getAttr (.ref x) "__class__" expr) Q E s := by
  refine jf_asks X I h1 h2 h3 fun B => ?_
  have found := looks_find (M := model prog w) X I h4
  unfold Builtin.«object.__getattribute__»
  refine wpAny_bind (wpAny_of_eq (a := ((Value.ref x : Value), [Value.str "__class__" s.toks])) (by first | rfl | (simp only [slotArgs]; rfl)) (wpAny_bind (wpAny_pure (wpAny_bind ((I.type (M := model prog w)).at (wpAny_bind (found.at ?_)))))))
  have J : K.In ({ s with toks := s.toks + 1 } : Shared).heap := X
  refine wpAny_bind (wpAny_holding (wpAny_call (class_get (s := { s with toks := s.toks + 1 }) (ox := ox) (od := od) J I h5 (wpAny_pure ⟨_, rfl, rfl, q⟩))))
theorem jf_dga (d tp : Value) (C : Addr) : descrGetArgs ⟨[d, .ref C, tp], []⟩ = pure (d, some (.ref C), given tp) := by rfl
/-- c.__name__, what its slot keeps -/
theorem jf_name_get {tp : Value} {o : Obj} {n : Str} {tk : Tok} (X : K.In s.heap) (ht : typeIn K (.ref C) = some (.type "type")) (hl : K.lookup C = some o) (hs : o.slots[2]? = some (some (.str n tk))) (h : R (.ok (.ret (.str n tk))) s) :
    codeAny (model prog w) A (.call (.builtin "getset_descriptor.__get__") ⟨[.builtin "type.__name__", .ref C, tp], []⟩) R s := by
  obtain ⟨hh, g, dr, t, os⟩ := s
  have L0 : Looks (model prog w) hh (typeOf (.ref C)) (.type "type") := looks_typeIn X ht
  have L1 : Looks (model prog w) hh (isSubtype (.type "type") (.type "type")) true := Looks.of_pure (by rw [isSubtype_type]; kernel_rfl)
  refine codeAny_call_builtin KF.slot_gs.plain KF.entry_gs (KF.slot_gs.check _ _ _ _ _ _ _ _ ktyn_type (KF.args_gs _ _ _) ?_)
  unfold Builtin.«getset_descriptor.__get__» descrGet
  rw [jf_dga]
  refine wpAny_bind (wpAny_pure ?_)
  unfold descrGetter descrCheckInstance descrNameAndClass isInstance
  simp only [ktyn_owner]
  repeat lk
  refine ⟨Code.quiet_builtin _ (by decide +kernel), codeAny_builtin ktyn_entry ?_⟩
  unfold Builtin.«type.__name__»
  dsimp only
  unfold Builtin.keptObject slotAt
  dsimp only
  refine wpAny_bind (wpAny_bind (wpAny_bind (wpAny_loadPart (X _ _ hl) ?_)))
  refine wpAny_pure (wpAny_pure ?_)
  rw [hs]
  exact wpAny_pure h
end
end PySem.W
namespace Jf
open PySem PySem.Spec PyProof.Rows L2 Evl
/-- what is asked of a class, so that its name is read -/
structure NmC (K : PySem.W.Frag) (C : Addr) (nm : Str) : Prop where
  ga : PySem.W.findIn K (.ref C) "__getattribute__" = some (some (.builtin "BaseException.__getattribute__"))
  gg : PySem.W.findIn K (.ref C) "__getattr__" = some none
  ex : PySem.W.subIn K (.ref C) (.type "BaseException") = some true
  cl : (PySem.W.clsIn K C).isSome = true
  kc : PySem.W.findIn K (.ref C) "__class__" = some (some (.builtin "object.__class__"))
  sp : PySem.W.specialIn K (.builtin "object.__class__") "__get__" = some (some (.builtin "getset_descriptor.__get__"))
  tk : PySem.W.takesIn K (.builtin "object.__class__") = some true
  mo : PySem.W.mroIn K C (.type "object") = some true
  rd : PySem.W.readsIn K C (.type "type") = true
  fd : PySem.W.findCls K (.ref C) (.type "type") "__name__" = some (.get (.builtin "getset_descriptor.__get__") (.builtin "type.__name__") (.ref C) (.type "type"))
  ty : PySem.W.typeIn K (.ref C) = some (.type "type")
  sl : ∃ o t, K.lookup C = some o ∧ o.slots[2]? = some (some (.str nm t))
/-- e.__class__.__name__ -/
def tNm (K : PySem.W.Frag) (te : TE) : TE := fun σ H Q => te σ H fun x H1 => ∃ (a C dx : Addr) (fs : List (Str × V)) (nm : Str), x = .ref a ∧ NmC K C nm ∧ H1 a = some (exo a C (some dx)) ∧ H1 dx = some (exd dx fs) ∧ Q (.str nm) H1
theorem pe_nm {X : Cx} {e : Expr} {te : TE} {p1 pos : Pos} (he : PE X e te) (hb1 : attributeBase e "__class__" X.env (eval e X.env) = eval e X.env := by rfl)
    (hb : attributeBase (.Attribute e "__class__" p1) "__name__" X.env (eval (.Attribute e "__class__" p1) X.env) = eval (.Attribute e "__class__" p1) X.env := by rfl) : PE X (.Attribute (.Attribute e "__class__" p1) "__name__" pos) (tNm X.K te) := by
  refine ⟨fun pins s σ H Q I h => ?_⟩
  refine attr_of hb (attr_of hb1 (thn (he.run pins s σ H _ I h) fun u s1 hh => ?_))
  obtain ⟨x, H1, I1, rx, a, C, dx, fs, nm, ex, T, ea, ed, q⟩ := hh
  subst ex
  obtain rfl : u = Value.ref a := rx
  obtain ⟨t1, ho⟩ := exo_at I1.hok ea
  obtain ⟨mA, hns, hr⟩ := exd_at I1.hok ed
  obtain ⟨od, hod, hl⟩ := lookIn_ns hns
  have J : PySem.W.InstAt s1.heap a { cls := .ref C, dict := some dx, data := .fields #[.ref t1, .none, .none, .none, .bool false, .none] } C (some od) := ⟨ho, rfl, rfl, hod⟩
  refine PySem.W.jf_classX I1.kIn J T.ga T.gg T.ex (PySem.W.findObj_dataE T.cl T.kc T.sp T.tk) T.mo ?_
  obtain ⟨o, t, e1, e2⟩ := T.sl
  have I2 := I1.tok (s1.toks + 1)
  have I3 := I1.tok (s1.toks + 1 + 1)
  refine PySem.W.cls_bind (s := { s1 with toks := s1.toks + 1 }) I2.kIn T.rd T.fd (wpAny_call (PySem.W.jf_name_get (s := { s1 with toks := s1.toks + 1 + 1 }) I3.kIn T.ty e1 e2 ?_))
  refine PySem.W.handed_on rfl ?_
  exact ⟨.str nm, H1, I3, ⟨t, rfl⟩, q⟩
end Jf
set_option Elab.async false
set_option linter.all false
set_option maxRecDepth 100000
set_option maxHeartbeats 4000000
namespace Jf
open PySem PySem.Spec PyProof.Rows L2 Evl
/-! ### error classes right under one class over ValueError, each with an `__init__` of its own that calls that one's -/
def clsOk (K : PySem.W.Frag) (C CM : Addr) (nm : Str) : Bool := match K.lookup C with
  | some ⟨.type "type", _, .cls cd, sl⟩ => (match sl.toList with
    | [_, _, _, _, some (.builtin n), _] => decide (n = "ValueError.__new__") && (decide (cd.name = nm) && (decide (cd.mro = [.ref C, .ref CM, .type "ValueError", .type "Exception", .type "BaseException", .type "object"]) && (decide (cd.hasDict = true) && decide (cd.hasDel = false))))
    | _ => false)
  | _ => false
/-- its name is read -/
def fdB (K : PySem.W.Frag) (C : Addr) : Bool := match PySem.W.findCls K (.ref C) (.type "type") "__name__" with
  | some (.get (.builtin g) (.builtin a) (.ref D) (.type t)) => decide (g = "getset_descriptor.__get__") && (decide (a = "type.__name__") && (decide (D = C) && decide (t = "type")))
  | _ => false
def slB (K : PySem.W.Frag) (C : Addr) (nm : Str) : Bool := match K.lookup C with
  | some o => (match o.slots[2]? with
    | some (some (Value.str n _)) => decide (n = nm)
    | _ => false)
  | none => false
def nmB (K : PySem.W.Frag) (C : Addr) (nm : Str) : Bool := PySem.W.readsIn K C (.type "type") && (fdB K C && (slB K C nm && decide (PySem.W.findIn K (.ref C) "kind" = some none)))
theorem fd_ok {K : PySem.W.Frag} {C : Addr} (h : fdB K C = true) : PySem.W.findCls K (.ref C) (.type "type") "__name__" = some (.get (.builtin "getset_descriptor.__get__") (.builtin "type.__name__") (.ref C) (.type "type")) := by
  unfold fdB at h
  split at h
  · rename_i g a D t e
    simp only [Bool.and_eq_true, decide_eq_true_eq] at h
    obtain ⟨rfl, rfl, rfl, rfl⟩ := h
    exact e
  · cases h
theorem sl_ok {K : PySem.W.Frag} {C : Addr} {nm : Str} (h : slB K C nm = true) : ∃ o t, K.lookup C = some o ∧ o.slots[2]? = some (some (.str nm t)) := by
  unfold slB at h
  split at h
  · rename_i o e
    split at h
    · rename_i n t e2
      simp only [decide_eq_true_eq] at h
      subst h
      exact ⟨o, t, e, e2⟩
    · cases h
  · cases h
/-- all that is asked of a class, as one truth -/
def errB (K : PySem.W.Frag) (C CM f : Addr) (nm : Str) : Bool :=
  nmB K C nm && (clsOk K C CM nm && (decide (PySem.W.findIn K (.ref C) "__setattr__" = some (some (.builtin "object.__setattr__"))) && (decide (PySem.W.subIn K (.ref C) (.type "BaseException") = some true) && (decide (PySem.W.typeIn K (.ref C) = some (.type "type")) &&
  (PySem.W.keepIn K (.ref C) && (decide (PySem.W.findIn K (.ref C) "__init__" = some (some (.ref f))) && (decide (PySem.W.typeIn K (.ref f) = some (.type "function")) && (decide (PySem.W.findIn K (.ref C) "value" = some none) &&
  (decide (PySem.W.findIn K (.ref C) "__getattribute__" = some (some (.builtin "BaseException.__getattribute__"))) && (decide (PySem.W.findIn K (.ref C) "__getattr__" = some none) && (PySem.W.hasDictIn K C &&
  (decide (PySem.W.findIn K (.ref C) "__class__" = some (some (.builtin "object.__class__"))) && (decide (PySem.W.specialIn K (.builtin "object.__class__") "__get__" = some (some (.builtin "getset_descriptor.__get__"))) && (decide (PySem.W.takesIn K (.builtin "object.__class__") = some true) &&
  (decide (PySem.W.mroIn K C (.type "object") = some true) && (decide (PySem.W.exmOne K (.ref C) (.ref CM) = some true) && !(C == CM)))))))))))))))))
structure ErrX (K : PySem.W.Frag) (C CM f : Addr) (nm : Str) : Prop where
  oex : OexC K C
  i : PySem.W.findIn K (.ref C) "__init__" = some (some (.ref f))
  t : PySem.W.typeIn K (.ref f) = some (.type "function")
  noV : PySem.W.findIn K (.ref C) "value" = some none
  ec : ErrC K C
  xf : XfC K C
  named : ∃ cd, PySem.W.clsIn K C = some cd ∧ cd.name = nm ∧ cd.mro = [.ref C, .ref CM, .type "ValueError", .type "Exception", .type "BaseException", .type "object"]
  exm : PySem.W.exmOne K (.ref C) (.ref CM) = some true
  ty : PySem.W.typeIn K (.ref C) = some (.type "type")
  neM : C ≠ CM
  nm : NmC K C nm
  noK : PySem.W.findIn K (.ref C) "kind" = some none
theorem cls_ok {K : PySem.W.Frag} {C CM : Addr} {nm : Str} (h : clsOk K C CM nm = true) : (∃ q N bs bm sn sub ab col dd k0 k1 k2 k3 k5, K.lookup C = some (excClassObj nm q C N bs bm true sn sub ab col dd k0 k1 k2 k3 k5 "ValueError.__new__") ∧ PySem.HandSPX.refsVE bm = true) ∧
    ∃ cd, PySem.W.clsIn K C = some cd ∧ cd.name = nm ∧ cd.mro = [.ref C, .ref CM, .type "ValueError", .type "Exception", .type "BaseException", .type "object"] := by
  unfold clsOk at h
  split at h
  · rename_i dd cd sl ho
    split at h
    · rename_i k0 k1 k2 k3 n k5 hs
      simp only [Bool.and_eq_true, decide_eq_true_eq] at h
      obtain ⟨rfl, h1, h2, h3, h4⟩ := h
      obtain ⟨nm', bs, mro, ns, qn, hd, sn, sub, ab, col, del⟩ := cd
      dsimp only at h1 h2 h3 h4
      subst h1 h2 h3 h4
      have hsl : sl = #[k0, k1, k2, k3, some (.builtin "ValueError.__new__"), k5] := by
        obtain ⟨l⟩ := sl
        simp only at hs
        rw [hs]
      subst hsl
      exact ⟨⟨qn, ns, bs, [.ref CM, .type "ValueError", .type "Exception", .type "BaseException", .type "object"], sn, sub, ab, col, dd, k0, k1, k2, k3, k5, ho, rfl⟩, _, by unfold PySem.W.clsIn; rw [ho], rfl, rfl⟩
    · cases h
  · cases h
theorem err_ok {K : PySem.W.Frag} {C CM f : Addr} {nm : Str} (h : errB K C CM f nm = true) : ErrX K C CM f nm := by
  unfold errB at h
  simp only [Bool.and_eq_true, decide_eq_true_eq, Bool.not_eq_true', beq_eq_false_iff_ne] at h
  obtain ⟨h0, h1, sa, ex, ty, kp, hi, ht, nv, ga, gg, hd, kc, sp, tk, mo, em, nM⟩ := h
  obtain ⟨⟨q, N, bs, bm, sn, sub, ab, col, dd, k0, k1, k2, k3, k5, hl, hr⟩, cd, hc, hn, hm⟩ := cls_ok h1
  unfold nmB at h0
  simp only [Bool.and_eq_true, decide_eq_true_eq] at h0
  refine ⟨⟨⟨nm, q, N, bs, bm, sn, sub, ab, col, dd, k0, k1, k2, k3, k5, hl, hr⟩, sa, ex, ty, kp⟩, hi, ht, nv, ⟨by rw [hc]; rfl, ga, gg, ex, hd, kc, sp, tk, mo⟩, ⟨ga, gg, ex, hd⟩, ⟨cd, hc, hn, hm⟩, em, ty, nM, ?_, ?_⟩
  · exact ⟨ga, gg, ex, by rw [hc]; rfl, kc, sp, tk, mo, h0.1, fd_ok h0.2.1, ty, sl_ok h0.2.2.1⟩
  · exact h0.2.2.2
section
variable {K : PySem.W.Frag} {C D CM f g : Addr} {nm nk : Str}
theorem kit_one (C : Addr) : PySem.W.kitOne K (.ref C) (.ref C) = some true := by
  unfold PySem.W.kitOne
  rw [if_pos (by simp)]
theorem ErrX.ne (a : ErrX K C CM f nm) (b : ErrX K D CM g nk) (h : nm ≠ nk) : C ≠ D := by
  rintro rfl
  obtain ⟨cd, h1, h2, _⟩ := a.named
  obtain ⟨ce, h3, h4, _⟩ := b.named
  rw [h1] at h3
  cases h3
  exact h (h2.symm.trans h4)
/-- isinstance by another of them -/
theorem ErrX.other (a : ErrX K C CM f nm) (b : ErrX K D CM g nk) (h : nm ≠ nk) : PySem.W.kitOne K (.ref C) (.ref D) = some false := by
  have n := a.ne b h
  obtain ⟨cd, h1, h2, h3⟩ := a.named
  obtain ⟨ce, h4, _, _⟩ := b.named
  unfold PySem.W.kitOne PySem.W.kitCls
  rw [if_neg (by simpa using n)]
  dsimp only
  rw [if_pos (by rw [h4, b.ty]; rfl)]
  show PySem.W.mroIn K C (.ref D) = some false
  unfold PySem.W.mroIn
  rw [h1, Option.bind_some, h3]
  simp [n.symm, b.neM]
theorem ErrX.off (a : ErrX K C CM f nm) (b : ErrX K D CM g nk) (n : C ≠ D) : PySem.W.kitOne K (.ref C) (.ref D) = some false := by
  obtain ⟨cd, h1, h2, h3⟩ := a.named
  obtain ⟨ce, h4, _, _⟩ := b.named
  unfold PySem.W.kitOne PySem.W.kitCls
  rw [if_neg (by simpa using n)]
  dsimp only
  rw [if_pos (by rw [h4, b.ty]; rfl)]
  show PySem.W.mroIn K C (.ref D) = some false
  unfold PySem.W.mroIn
  rw [h1, Option.bind_some, h3]
  simp [n.symm, b.neM]
theorem ErrX.self1 (a : ErrX K C CM f nm) : PySem.W.exmOne K (.ref C) (.ref C) = some true := by
  obtain ⟨cd, h1, h2, h3⟩ := a.named
  refine PySem.W.exm_ref a.ec.ex a.ec.hd a.ty ?_
  show PySem.W.mroIn K C (.ref C) = some true
  unfold PySem.W.mroIn
  rw [h1, Option.bind_some, h3]
  simp
theorem ErrX.base (a : ErrX K C CM f nm) : PySem.W.kitOne K (.ref C) (.ref CM) = some true := by
  have e := a.exm
  unfold PySem.W.exmOne at e
  split at e
  · unfold PySem.W.kitOne
    split
    · rfl
    · exact e
  · cases e
theorem ErrX.ve (a : ErrX K C CM f nm) : PySem.W.kitOne K (.ref C) (.type "ValueError") = some true := by
  obtain ⟨cd, h1, h2, h3⟩ := a.named
  unfold PySem.W.kitOne PySem.W.kitCls
  rw [if_neg (by simp)]
  dsimp only
  rw [if_pos (by decide +kernel)]
  show PySem.W.mroIn K C (.type "ValueError") = some true
  unfold PySem.W.mroIn
  rw [h1, Option.bind_some, h3]
  simp
theorem ErrX.self (a : ErrX K C CM f nm) (b : ErrX K D CM g nk) (h : nm = nk) (e : C = D) : PySem.W.kitOne K (.ref C) (.ref D) = some true := e ▸ kit_one C
end
/-- what such an error keeps -/
def kd (k : Str) (v : V) : List (Str × V) := [(("kind" : Str), .str k), (("value" : Str), v)]
/-- the object made of a class, its value kept -/
def ErrAt (K : PySem.W.Frag) (C : Addr) (v : V) (x : V) (H : Hp) : Prop := ∃ a dx k, x = .ref a ∧ H a = some (exo a C (some dx)) ∧ H dx = some (exd dx (kd k v))

/-! ### making one, as a value -/
def spInit (C : Addr) : Sp := fun vs H Q _ => ∃ (a : Addr) (v : V), vs = [.ref a, v] ∧ H a = some (exo a C none) ∧
  ∀ dx k H', H dx = none → dx ≠ a → H' a = some (exo a C (some dx)) → H' dx = some (exd dx (kd k v)) → (∀ b o, b ≠ a → H b = some o → H' b = some o) → Q .non H'
/-- .. of any of those classes -/
def spInitM (K : PySem.W.Frag) : Sp := fun vs H Q _ => ∃ (C a : Addr) (v : V) (nm : Str), vs = [.ref a, v] ∧ OexC K C ∧ PySem.W.findIn K (.ref C) "value" = some none ∧ PySem.W.findIn K (.ref C) "kind" = some none ∧ NmC K C nm ∧ H a = some (exo a C none) ∧
  ∀ dx k H', H dx = none → dx ≠ a → H' a = some (exo a C (some dx)) → H' dx = some (exd dx (kd k v)) → (∀ b o, b ≠ a → H b = some o → H' b = some o) → Q .non H'
def tMkV (C : Addr) (sp : Sp) (ta : TA) : TE := fun σ H Q => ta σ H fun vs H1 => vs.length ≤ 1000 ∧ ∀ a, H1 a = none → sp (.ref a :: vs) (upd H1 a (exo a C none)) (fun v H2 => v = .non ∧ Q (.ref a) H2) (fun _ _ _ => False)
section
variable {X : Cx} {e : Expr} {es : List Expr} {ta : TA} {x m : Str} {p p1 p2 pos : Pos} {k : Nat} {fd : FuncData} {ps : List Str} {sp : Sp}
/-- C(e, ..) -/
theorem pe_mkv {CX : CXT} {C fI : Addr} (T : OexC X.K C) (iC : PySem.W.findIn X.K (.ref C) "__init__" = some (some (.ref fI))) (tI : PySem.W.typeIn X.K (.ref fI) = some (.type "function"))
    (F1 : FnOk X.prog X.w X.K X.mg X.base CX k fI fd ps sp) (hr : Room (k + 1) X.A) (hb : Binds X.K fd ps []) (hx : Passes CX X (fun _ _ _ => False)) (hg : Gl X x) (hm : X.mg x = some (.ref C)) (ha : PA X (e :: es) ta)
    (hdb : (x == ("__debug__" : Str)) = false := by decide) (he : starEach (e :: es) X.env = (false, eval e X.env) :: starEach es X.env := by rfl) (hpl : (backTo pos (starEach es X.env)).any (·.1) = false := by rfl) :
    PE X (.Call (.Name x p) (e :: es) [] pos) (tMkV C sp ta) := by
  refine ⟨fun pins s σ H Q I h => ?_⟩
  obtain ⟨nm, q, N, bs, bm, sn, sub, ab, col, dd, k0, k1, k2, k3, k5, hC, hbm⟩ := T.cls
  refine wpAny_Call_Name_kw (ld_glob I hg hm ?_ hdb)
  refine PySem.W.callWith_K (h₀ := X.base) I.ok.mod.kin T.kC (thn (ha.run pos pins s σ H _ I h) fun us s1 ⟨vs, H1, I1, r1, hz, q1⟩ => ⟨I1.kIn, ?_⟩) he hpl
  show wpAny _ _ (call (.ref C) us) _ _ _
  obtain ⟨hp, g, dr, tk, os⟩ := s1
  have hsz : hp.objs.size ≤ hp.objs.size + 1 := Nat.le_succ _
  have hn : H1 (hp.objs.size + 1) = none := I1.hok.fresh hsz
  have hq := q1 (hp.objs.size + 1) hn
  have kk : ∀ b o, hp.get? b = some o → ((hp.push (PySem.W.kdv_tup us)).push (PySem.HandSPX.excO C hp.objs.size)).get? b = some o := fun b o e => Heap.get?_push_of_some _ (Heap.get?_push_of_some _ e)
  have hget : ((hp.push (PySem.W.kdv_tup us)).push (PySem.HandSPX.excO C hp.objs.size)).get? (hp.objs.size + 1) = some (PySem.HandSPX.excO C hp.objs.size) := by heap_get
  have I2 : Inv X pins σ (upd H1 (hp.objs.size + 1) (exo (hp.objs.size + 1) C none)) ⟨(hp.push (PySem.W.kdv_tup us)).push (PySem.HandSPX.excO C hp.objs.size), g, dr, tk, os⟩ :=
    I1.laid (t' := tk) (a := hp.objs.size + 1) (o := exo (hp.objs.size + 1) C none) (h' := (hp.push (PySem.W.kdv_tup us)).push (PySem.HandSPX.excO C hp.objs.size)) kk hsz (exo_ok hget)
  have r2 : Vals (V.ref (hp.objs.size + 1) :: vs) (Value.ref (hp.objs.size + 1) :: us) := .cons rfl r1
  have hl : (Value.ref (hp.objs.size + 1) :: us ++ []).length = ps.length := by
    have e := r2.length
    rw [F1.len _ _ _ _ hq] at e
    rw [List.append_nil]
    exact e.symm
  have hus : us.length ≤ sizeLine := by
    rw [← Paired.length r1, sizeLine_eq]
    omega
  have hb2 := hb _ (Value.ref (hp.objs.size + 1) :: us) I2.kIn hl
  rw [List.append_nil] at hb2
  refine wpAny_call (PySem.HandSPX.call_own F.excBase_ValueError (fun Y => PySem.HandSPX.refsVE_contains Y bm hbm) (I1.kIn _ _ hC) (PySem.W.looks_findIn I1.kIn iC) (fun self => PySem.W.bind_fn I1.kIn self tI) hus
    (codeAny_mono (F1.run _ X.stack _ _ ⟨Value.ref (hp.objs.size + 1) :: us, []⟩ (Value.ref (hp.objs.size + 1) :: us) _ _ (fun _ _ _ => False) (hr.make C us []) (I2.env0.make C us []) hb2 r2 hq) fun r s' hq' => ?_))
  cases r with
  | error er => exact hx pins σ _ _ er s' I2 hq'
  | ok fl =>
    cases fl with
    | ret u =>
      obtain ⟨v, H2, os2, bare2, un2, hok2, rv, ev, q2⟩ := hq'
      subst ev
      obtain ⟨h2, g2, d2, t2, os'⟩ := s'
      exact ⟨rv, .ref (hp.objs.size + 1), H2, I2.call' (ch := []) os2 un2 hok2 bare2 (fun b z => absurd z (by simp)), rfl, q2⟩
    | next => exact False.elim hq'
    | brk => exact False.elim hq'
    | cont => exact False.elim hq'
/-- C.m(e, ..), m a def of the class C itself -/
theorem pe_clsdef {CX : CXT} {C f : Addr} {mc : Value} {E : XK} {pl : Sem Bool} (hg : Gl X x) (hm : X.mg x = some (.ref C)) (rd : PySem.W.readsIn X.K C mc = true) (ga : PySem.W.specialIn X.K (.ref C) "__getattribute__" = some (some (.builtin "type.__getattribute__")))
    (fi : PySem.W.findCls X.K (.ref C) mc m = some (.val (.ref f))) (hk : PySem.W.keepIn X.K (.ref f) = true) (F1 : FnOk X.prog X.w X.K X.mg X.base CX k f fd ps sp) (hr : Room k X.A) (hb : Binds X.K fd ps []) (hx : Passes CX X E) (ha : PA X (e :: es) ta)
    (hdb : (x == ("__debug__" : Str)) = false := by decide)
    (hc : eval (.Call (.Attribute (.Name x p1) m p2) (e :: es) [] pos) X.env = (do
      let ov ← eval (.Name x p1) X.env
      standAt p2.atName
      let (f, first) ← holding [ov] (getMethod ov m pl)
      callWith pos f first (backTo pos (starEach (e :: es) X.env)) (backToKw pos (keywordEach [] X.env))) := by rfl)
    (he : starEach (e :: es) X.env = (false, eval e X.env) :: starEach es X.env := by rfl) (hpl : (backTo pos (starEach es X.env)).any (·.1) = false := by rfl) :
    PE X (.Call (.Attribute (.Name x p1) m p2) (e :: es) [] pos) (tCall sp [] E ta) := by
  refine ⟨fun pins s σ H Q I h => ?_⟩
  refine PySem.W.methodCall_KW (ld_glob I hg hm ?_ hdb) hc
  refine PySem.W.method_cls I.kIn ga (PySem.W.cls_value I.kIn rd fi rfl ?_)
  show wpAny _ _ (callWith pos (Value.ref f) [] (backTo pos (starEach (e :: es) X.env)) []) _ _ _
  refine PySem.W.callWith_K (h₀ := X.base) I.ok.mod.kin hk (thn (ha.run pos pins _ σ H _ (I.tok _) h) fun us s1 ⟨vs, H1, I1, r, q⟩ => ⟨I1.kIn, ?_⟩) he hpl
  exact run_fn F1 hr hb .nil hx I1 r q
end
/-! ### what is asked of such an object -/
/-- isinstance(e, c) -/
def rIsX (K : PySem.W.Frag) : List V → Hp → VK → Prop := fun xs H Q => ∃ (a C dd : Addr) (fs : List (Str × V)) (c : V) (cv : Value) (b : Bool), xs = [.ref a, c] ∧ (∀ u, RelV c u → u = cv) ∧ ErrC K C ∧ H a = some (exo a C (some dd)) ∧ H dd = some (exd dd fs) ∧ PySem.W.kitOne K (.ref C) cv = some b ∧ Q (.bl b) H
theorem call_isX {X : Cx} : CallR X (.builtin "isinstance") (rIsX X.K) := by
  intro pins s σ H xs us Q I r h
  obtain ⟨a, C, dd, fs, c, cv, b, rfl, hcv, T, ea, ed, hk, q⟩ := h
  cases r with
  | cons rx rr =>
    cases rr with
    | cons rt rr =>
      cases rr
      cases rx
      have ec := hcv _ rt
      subst ec
      obtain ⟨t1, ho⟩ := exo_at I.hok ea
      obtain ⟨mA, hns, rel⟩ := exd_at I.hok ed
      obtain ⟨od, hod, _⟩ := lookIn_ns hns
      have J : PySem.W.InstAt s.heap a { cls := .ref C, dict := some dd, data := .fields #[.ref t1, .none, .none, .none, .bool false, .none] } C (some od) := ⟨ho, rfl, rfl, hod⟩
      refine PySem.W.kia_one (PySem.W.kitx_exc T.cl T.ga T.gg T.ex T.kc T.sp T.tk T.mo) I.kIn J hk (fun z => nomatch z) ?_
      intro tk
      exact ⟨.bl b, H, I.kept (t' := tk) fun _ _ z => z, rfl, q⟩
/-- e.f -/
def tXo (K : PySem.W.Frag) (f : Str) (te : TE) : TE := fun σ H Q => te σ H fun x H1 => ∃ (a C dd : Addr) (fs : List (Str × V)) (v : V), x = .ref a ∧ XfC K C ∧ PySem.W.findIn K (.ref C) f = some none ∧ H1 a = some (exo a C (some dd)) ∧ H1 dd = some (exd dd fs) ∧ fs.lookup f = some v ∧ Q v H1
theorem pe_xo {X : Cx} {e : Expr} {te : TE} {pos : Pos} {n : Str} (he : PE X e te) (hb : attributeBase e n X.env (eval e X.env) = eval e X.env := by rfl) : PE X (.Attribute e n pos) (tXo X.K n te) := by
  refine ⟨fun pins s σ H Q I h => ?_⟩
  refine attr_of hb (thn (he.run pins s σ H _ I h) fun u s1 hh => ?_)
  obtain ⟨x, H1, I1, rx, a, C, dd, fs, v, ex, T, hno, ea, ed, l, q⟩ := hh
  subst ex
  obtain rfl : u = Value.ref a := rx
  obtain ⟨t1, ho⟩ := exo_at I1.hok ea
  obtain ⟨mA, hns, hr⟩ := exd_at I1.hok ed
  obtain ⟨od, hod, hl⟩ := lookIn_ns hns
  obtain ⟨u, hu, ru⟩ := RelO.some_of (v := v) (o := mA n) (by rw [← l]; exact hr n)
  have J : PySem.W.InstAt s1.heap a { cls := .ref C, dict := some dd, data := .fields #[.ref t1, .none, .none, .none, .bool false, .none] } C (some od) := ⟨ho, rfl, rfl, hod⟩
  exact HandSPX.exc_get I1.kIn J T.ga T.gg T.exC (PySem.W.findObj_own T.hdC hno rfl (by rw [hl, hu])) (handed_of ru) ⟨v, H1, I1.tok _, ru, q⟩
/-! ### the class of all of them -/
def baseB (K : PySem.W.Frag) (C f : Addr) : Bool := PySem.W.readsIn K C (.type "type") && (decide (PySem.W.specialIn K (.ref C) "__getattribute__" = some (some (.builtin "type.__getattribute__"))) && PySem.W.keepIn K (.ref f))
/-- how the class of all of them stands -/
structure BaseK (K : PySem.W.Frag) (mg : Str → Option Value) (nm q : Str) (st : Stmt) where
  C : Addr
  f : Addr
  fd : FuncData
  g : mg nm = some (.ref C)
  F : Fun K "__init__" q st f fd
  b : Binds K fd ["self", "value"] []
  rd : PySem.W.readsIn K C (.type "type") = true
  ga : PySem.W.specialIn K (.ref C) "__getattribute__" = some (some (.builtin "type.__getattribute__"))
  fi : PySem.W.findCls K (.ref C) (.type "type") "__init__" = some (.val (.ref f))
  kp : PySem.W.keepIn K (.ref f) = true
/-- how one of them stands -/
structure ErrK (K : PySem.W.Frag) (mg : Str → Option Value) (nm q : Str) (CM : Addr) (st : Stmt) where
  C : Addr
  f : Addr
  fd : FuncData
  g : mg nm = some (.ref C)
  F : Fun K "__init__" q st f fd
  b : Binds K fd ["self", "value"] []
  x : ErrX K C CM f nm
theorem base_ok {K : PySem.W.Frag} {C f : Addr} (h : baseB K C f = true) : PySem.W.readsIn K C (.type "type") = true ∧ PySem.W.specialIn K (.ref C) "__getattribute__" = some (some (.builtin "type.__getattribute__")) ∧ PySem.W.keepIn K (.ref f) = true := by
  unfold baseB at h
  simp only [Bool.and_eq_true, decide_eq_true_eq] at h
  exact h
/-! ### list.count of truths -/
def eqb (k : Bool) (v : Value) : Bool := match v with
  | .bool n => n == k
  | _ => false
def rCntB (K : PySem.W.Frag) : V → List V → Hp → VK → Prop := fun x xs H Q => ∃ (p : Addr) (ns : List Bool) (k : Bool), x = .ref p ∧ xs = [.bl k] ∧ SqL K H p (ns.map V.bl) ∧ Q (.int (ns.count k : Nat)) H
theorem vals_bl : ∀ {ns : List Bool} {us : List Value}, Vals (ns.map V.bl) us → us = ns.map Value.bool
  | [], us, r => by cases r; rfl
  | n :: ns, us, r => by
    cases r with
    | cons h r2 =>
      have e := vals_bl r2
      rw [e]
      cases (show _ = Value.bool n from h)
      rfl
theorem eqb_count (k : Bool) : ∀ ns : List Bool, (ns.map Value.bool).countP (eqb k) = ns.count k
  | [] => rfl
  | n :: ns => by
    rw [List.map_cons, List.countP_cons, List.count_cons, eqb_count k ns]
    rfl
theorem mt_bcount {X : Cx} : MtR X "list.count" (rCntB X.K) := by
  intro pins s σ H x xs v us Q I rx rxs h
  obtain ⟨p, ns, k, rfl, rfl, hs, q⟩ := h
  cases rx
  obtain ⟨u, rfl, ru⟩ := rxs.one
  obtain rfl : u = Value.bool k := ru
  obtain ⟨its, rv, ⟨⟨cls, dd, data, sl⟩, n, ho, hc, hdn, hd⟩, hlen⟩ := I.list hs
  simp only at hc hd
  subst hc hd
  have hi := vals_bl rv
  subst hi
  refine call_meets PySem.F.slot_list_count ⟨_, ho, rfl⟩ PySem.F.entry_list_count (PySem.F.args_list_count_2 _ _)
    (SeqAt.list_countAt p (ns.map Value.bool).toArray n dd sl (.bool k) (eqb k)) ⟨ho, fun y hy => ?_, ?_⟩
  · have hy' : y ∈ ns.map Value.bool := by simpa using hy
    obtain ⟨b, _, rfl⟩ := List.mem_map.mp hy'
    exact SeqAt.EqAt.bool_bool b k
  have ec : (ns.map Value.bool).toArray.toList.countP (eqb k) = ns.count k := eqb_count k ns
  refine ⟨.int (ns.count k : Nat), H, I.tok _, ⟨s.toks, ?_⟩, q⟩
  show Value.int (((ns.map Value.bool).toArray.toList.countP (eqb k) : Nat) : Int) s.toks = Value.int ((ns.count k : Nat) : Int) s.toks
  rw [ec]
end Jf
set_option Elab.async false
set_option linter.all false
set_option maxRecDepth 100000
set_option maxHeartbeats 4000000
namespace Jf
open PySem PySem.Spec PyProof.Rows L2 Evl
/-- list(xs): a new list, not at sys.modules -/
def rListN (K : PySem.W.Frag) : List V → Hp → VK → Prop := fun xs H Q => ∃ (p : Addr) (ys : List V), xs = [.ref p] ∧ (SqL K H p ys ∨ SqT K H p ys) ∧ ∀ l, H l = none → l ≠ sysModules → Q (.ref l) (upd H l (.lst ys))
theorem call_listN {X : Cx} : CallR X (.type "list") (rListN X.K) := by
  rintro pins s σ H xs us Q I r ⟨p, ys, rfl, from_, k⟩
  obtain ⟨u, rfl, ru⟩ := vals1 r
  cases ru
  have done : ∀ its : List Value, Vals ys its → ys.length ≤ sizeLine → ∀ (h' : Heap) (n : Nat), (∀ b o, s.heap.get? b = some o → h'.get? b = some o) → h'.get? s.heap.objs.size = some { cls := .type "list", dict := none, data := .seq its.toArray n, slots := #[] } →
      EP X pins σ Q (.ref s.heap.objs.size) { s with heap := h' } := by
    intro its vals len h' n kp e
    have hf : H s.heap.objs.size = none := I.hok.fresh (Nat.le_refl _)
    refine ⟨.ref _, upd H _ (.lst ys), I.laid (t' := s.toks) kp (Nat.le_refl _) ?_, rfl, k _ hf (Nat.ne_of_gt I.big)⟩
    exact ⟨len, its, n, vals, e⟩
  rcases from_ with h | h
  · obtain ⟨its, vals, pl, len⟩ := I.list h
    have e := vals.length
    obtain ⟨o, e1, e2, n, e3⟩ := pl.isList
    exact call_list_seq p (.inl rfl) e1 e2 e3 (done its vals len) (by simp only [List.size_toArray]; omega)
  · obtain ⟨its, vals, pl, len⟩ := I.tuple h
    have e := vals.length
    obtain ⟨o, e1, e2, n, e3⟩ := pl
    exact call_list_seq p (.inr rfl) e1 e2 e3 (done its vals len) (by simp only [List.size_toArray]; omega)
end Jf
set_option Elab.async false
set_option linter.all false
set_option maxRecDepth 100000
set_option maxHeartbeats 4000000
namespace Jf
open PySem PySem.Spec PyProof.Rows L2
/-! ### several clauses, each with a name -/
/-- what the clauses wish of an exception of the body, one after the other -/
def wAsM (K : PySem.W.Frag) (Wout : WX) (D : Ends) : List (Value × Nat × (Addr → Value → Option Addr → TS)) → WX
  | [] => Wout
  | (c, i, ts) :: r => fun cls d σ H => ∃ b, PySem.W.exmOne K cls c = some b ∧
      (b = true → ∀ a, H a = none → ts a cls d { nx := fun σ' H' => D.nx (σ'.set i none) H', rt := D.rt, bk := fun σ' H' => D.bk (σ'.set i none) H', ct := fun σ' H' => D.ct (σ'.set i none) H' } (σ.set i (some (.ref a))) H) ∧
      (b = false → wAsM K Wout D r cls d σ H)
inductive HdsAs (X : Cx) : List ExceptHandler → List (Value × Nat × (Addr → Value → Option Addr → TS)) → Prop
  | nil : HdsAs X [] []
  | cons {x n : Str} {c : Value} {i : Nat} {ts : Addr → Value → Option Addr → TS} {b₀ : Stmt} {suite : List Stmt} {np pos' : Pos} {hds : List ExceptHandler} {l : List (Value × Nat × (Addr → Value → Option Addr → TS))}
      (hi : X.N[i]? = some n) (hln : X.env.kindOf n = some .local) (hc : Names X x c)
      (hsu : ∀ (a : Addr) (oe : Obj) (cls : Value) (d : Option Addr) (pn : List (Addr × Obj)), Zc cls d oe → (∃ vs, oe.data = .fields vs) → PSs (X.suite a ((a, oe) :: pn)) (b₀ :: suite) (ts a cls d)) (r : HdsAs X hds l) :
      HdsAs X (.ExceptHandler (some (.Name x np)) (some n) (b₀ :: suite) pos' :: hds) ((c, i, ts) :: l)
section
variable {X : Cx} {body : List Stmt} {h₀ : ExceptHandler} {hds : List ExceptHandler} {l : List (Value × Nat × (Addr → Value → Option Addr → TS))} {pos : Pos} {tb : WX → TS} {Wout : WX}
/-- an error of the body has come to the clauses: where it stands, and the state sI without it -/
structure Came (X : Cx) (pins : List (Addr × Obj)) (σ : L2.St) (H : Hp) (a : Addr) (cls : Value) (d : Option Addr) (B : Heap) (sI s : Shared) (h : Heap) : Prop where
  inv : Inv X pins σ H sI
  nb : ∀ b o, sI.heap.get? b = some o → b ∉ frs X.stack → B.get? b = some o
  free : H a = none
  os : s.os = sI.os
  ag : AllBare s.gens
  fl : HandSPX.FlyingZ B (X.env :: X.outer) a (Zc cls d) h
  up : sI.heap.UpToSlots h
section
variable {pins : List (Addr × Obj)} {σ : L2.St} {H : Hp} {a : Addr} {cls : Value} {d : Option Addr} {B h : Heap} {sI s : Shared} {D : Ends}
theorem Came.again {h' : Heap} (c : Came X pins σ H a cls d B sI s h) (f : HandSPX.FlyingZ B (X.env :: X.outer) a (Zc cls d) h') (u : h.UpToSlots h') : Came X pins σ H a cls d B sI s h' := ⟨c.inv, c.nb, c.free, c.os, c.ag, f, c.up.trans u⟩
theorem Came.here (c : Came X pins σ H a cls d B sI s h) : Inv X pins σ H { s with heap := h } := c.inv.landed c.nb c.fl.1 c.up c.os c.ag
theorem Came.off (hf : X.env.frame = some X.env.locals) (c : Came X pins σ H a cls d B sI s h) : a ≠ X.env.locals ∧ a ∉ X.fs := by
  obtain ⟨o, vs, e1, _, e2⟩ := c.fl.there
  have out : a ∉ frs (X.env :: X.outer) := fun hm => by
    obtain ⟨_, o', e3, n⟩ := c.fl.2.2.1.mem hm
    rw [e1] at e3
    cases e3
    exact n _ e2
  constructor
  · rintro rfl
    exact out (List.mem_filterMap.mpr ⟨X.env, List.mem_cons_self, hf⟩)
  · intro hm
    obtain ⟨e, he, q⟩ := List.mem_filterMap.mp hm
    exact out (List.mem_filterMap.mpr ⟨e, List.mem_cons_of_mem _ he, q⟩)
theorem Came.in (hf : X.env.frame = some X.env.locals) (c : Came X pins σ H a cls d B sI s h) : ∃ o vs, h.get? a = some o ∧ Zc cls d o ∧ o.data = .fields vs ∧ Inv (X.suite a ((a, o) :: (X.pn ++ pins))) [] σ H { s with heap := h } := by
  obtain ⟨o, vs, e1, e2, e3⟩ := c.fl.there
  exact ⟨o, vs, e1, e2, e3, c.here.suite e1 e3 c.free (c.off hf).1 (c.off hf).2⟩
/-- no clause takes it -/
theorem Came.on (hs : X.stack = X.env :: X.outer) (hf : X.env.frame = some X.env.locals) (tk : Takes X Wout) (c : Came X pins σ H a cls d B sI s h) (w : Wout cls d σ H) : wpAny (model X.prog X.w) X.A (handleBy (.ref a) X.env []) (SP X pins D) X.xe { s with heap := h } := by
  obtain ⟨_, _, _, o, vs, T, _, _, e1, _, e3, e4, _⟩ := id c.fl
  have last : wpAny (model X.prog X.w) X.A (setFlight (.ref a) X.env.frame) (fun _ s₁ => wpAny (model X.prog X.w) X.A (throw (.ref a) : Sem Flow) (SP X pins D) X.xe s₁) X.xe { s with heap := h } := by
    rw [hf]
    exact HandSPX.setFlight_upZ c.fl fun h' held u => wpAny_throw (tk _ _ ⟨a, B, sI, pins, σ, H, cls, d, rfl, c.inv, c.nb, c.up.trans u, .inr (.inr (hs ▸ held)), c.free, c.os, c.ag, w⟩)
  refine wpAny_handleBy_nil ?_
  unfold PySem.passOn
  refine wpAny_bind (wpAny_field e1 e3 e4 ?_)
  rw [if_neg (by simp : ¬ ((Value.ref T == Value.none) = true))]
  first
    | exact wpAny_bind last
    | exact wpAny_bind (wpAny_pure (wpAny_bind last))
/-- one takes it: its suite -/
theorem Came.go {i : Nat} {n : Str} {b₀ : Stmt} {suite : List Stmt} {pos' : Pos} {ts : Addr → Value → Option Addr → TS} (ok : Cx.Ok X) (hN : X.N.Nodup) (hf : X.env.frame = some X.env.locals) (hi : X.N[i]? = some n) (hln : X.env.kindOf n = some .local)
    (hsu : ∀ (a : Addr) (oe : Obj) (cls : Value) (d : Option Addr) (pn : List (Addr × Obj)), Zc cls d oe → (∃ vs, oe.data = .fields vs) → PSs (X.suite a ((a, oe) :: pn)) (b₀ :: suite) (ts a cls d)) (c : Came X pins σ H a cls d B sI s h)
    (w : ts a cls d { nx := fun σ' H' => D.nx (σ'.set i none) H', rt := D.rt, bk := fun σ' H' => D.bk (σ'.set i none) H', ct := fun σ' H' => D.ct (σ'.set i none) H' } (σ.set i (some (.ref a))) H) (o : Obj) (vs : Array Value)
    (e2 : Zc cls d o) (e3 : o.data = .fields vs) (S : Inv (X.suite a ((a, o) :: (X.pn ++ pins))) [] σ H { s with heap := h })
    {R : Flow → Shared → Prop} {Ee Eo : Value → Shared → Prop} (hR : ∀ f s', SP X pins D f s' → R f s') :
    wpAny (model X.prog X.w) (X.A.mark (some (.ref a))) (storeName X.env n (.ref a)) (fun _ s₁ => wpAny (model X.prog X.w) (X.A.mark (some (.ref a))) (execs (b₀ :: suite) X.env) (fun f s₂ =>
      wpAny (model X.prog X.w) X.A (do bindName X.env n .none; unbindBehindTheSuite X.env n pos') (fun _ s₃ => R f s₃) X.xe s₂) Ee s₁) Eo { s with heap := h } := by
  refine store_ok (X := X.suite a ((a, o) :: (X.pn ++ pins))) (v := .ref a) S hN hi (.inl hln) rfl (fun s₁ S₁ => ?_) (.inr hln)
  refine wpAny_mono ((hsu a o cls d (X.pn ++ pins) e2 ⟨_, e3⟩).run [] s₁ _ H _ S₁ w) (fun f s₂ q => ?_) fun _ _ z => z.elim
  have close : ∀ {σ₂ : L2.St} {H₂ : Hp}, Inv (X.suite a ((a, o) :: (X.pn ++ pins))) [] σ₂ H₂ s₂ → (∀ s₃, Inv X pins (σ₂.set i none) H₂ s₃ → R f s₃) → wpAny (model X.prog X.w) X.A (do bindName X.env n .none; unbindBehindTheSuite X.env n pos') (fun _ s₃ => R f s₃) X.xe s₂ :=
    fun S₂ k => gone_ok (S₂.unsuite ok) hN hi hln k
  match f, q with
  | .next, ⟨_, _, S₂, q₂⟩ => exact close S₂ fun _ J => hR _ _ ⟨_, _, J, q₂⟩
  | .brk, ⟨_, _, S₂, q₂⟩ => exact close S₂ fun _ J => hR _ _ ⟨_, _, J, q₂⟩
  | .cont, ⟨_, _, S₂, q₂⟩ => exact close S₂ fun _ J => hR _ _ ⟨_, _, J, q₂⟩
  | .ret _, ⟨_, _, _, S₂, r, q₂⟩ => exact close S₂ fun _ J => hR _ _ ⟨_, _, _, J, r, q₂⟩
/-- the clauses, from the first on -/
theorem Came.through (ok : Cx.Ok X) (hs : X.stack = X.env :: X.outer) (hf : X.env.frame = some X.env.locals) (hN : X.N.Nodup) (tk : Takes X Wout) : ∀ {hds : List ExceptHandler} {l : List (Value × Nat × (Addr → Value → Option Addr → TS))} {h : Heap}, HdsAs X hds l → Came X pins σ H a cls d B sI s h →
    wAsM X.K Wout D l cls d σ H → wpAny (model X.prog X.w) X.A (handleBy (.ref a) X.env hds) (SP X pins D) X.xe { s with heap := h }
  | _, _, _, .nil, c, w => c.on hs hf tk w
  | _, _, h, .cons (x := x) (c := cv) (np := np) hi hln hc hsu r, c, ⟨b, hb, yes, no⟩ => by
    obtain ⟨o, vs, e1, e2, e3, S⟩ := c.in hf
    have name : ∀ {Q E : Value → Shared → Prop}, Q cv { s with heap := h } → wpAny (model X.prog X.w) (X.A.mark (some (.ref a))) (eval (.Name x np) X.env) Q E { s with heap := h } := fun {Q E} q => by
      rcases hc with ⟨g, nd, m | ⟨m, v, nn⟩⟩
      · exact ld_glob (X := X.suite a ((a, o) :: (X.pn ++ pins))) S g m q nd
      · exact ld_blt (X := X.suite a ((a, o) :: (X.pn ++ pins))) S g m v q nn nd
    have of : PySem.W.Looks (model X.prog X.w) h (typeOf (.ref a)) cls := fun _ _ _ _ k q => wpAny_typeOf_ref (k _ _ e1) (by rw [e2.1]; exact q)
    refine wpAny_handleBy_cons (codeAny_handlers_test (name ((PySem.W.exm_one (M := model X.prog X.w) c.here.kIn of hb).here ?_))) (by intro z; cases z)
    match b, yes, no with
    | false, _, no => exact Came.through ok hs hf hN tk r c (no rfl)
    | true, yes, _ =>
      refine codeAny_handlers_suite_as (HandSPX.lands_againZ c.fl fun h' f' u => ?_)
      have c' := c.again f' u
      obtain ⟨o', vs', _, e2', e3', S'⟩ := c'.in hf
      exact c'.go ok hN hf hi hln hsu (yes rfl a c.free) o' vs' e2' e3' S' fun f s' q => by
        cases f <;> exact q
end
theorem ps_try_asM (hs : X.stack = X.env :: X.outer) (hf : X.env.frame = some X.env.locals) (hN : X.N.Nodup) (tk : Takes X Wout)
    (hb : ∀ (W : WX) (pn : List (Addr × Obj)) (xe : Value → Shared → Prop), Takes (X.tr pn xe) W → PassesOwn (model X.prog X.w) X.A X.env xe → PSs (X.tr pn xe) body (tb W))
    (hh : HdsAs X (h₀ :: hds) l) : PS X (.Try body (h₀ :: hds) [] [] pos) (fun D σ H => tb (wAsM X.K Wout D l) D σ H) := by
  refine ⟨fun pins s σ H D I w => wpAny_Try_except ?_⟩
  have ok := I.ok
  refine wpAny_mono ((hb (wAsM X.K Wout D l) (X.pn ++ pins) (fun e s₁ => wpAny (model X.prog X.w) X.A (noteFrame e X.env) (fun _ s₂ => wpAny (model X.prog X.w) X.A (setFlight e none) (fun _ s₃ =>
    wpAny (model X.prog X.w) X.A (handleBy e X.env (h₀ :: hds)) (SP X pins D) X.xe s₃) X.xe s₂) X.xe s₁) ?_ PassesOwn.looking).run [] s σ H D (I.toTry _) w) ?_ fun _ _ z => z
  · rintro u s' ⟨a, B, sI, _, σ', H', cls, d, rfl, J, nb, up, sky, na, os, ag, w'⟩
    exact Sky.land Zc.steady (ok.frames.trans (by rw [hs])) hf (hs ▸ sky) fun h' fl up' => Came.through ok hs hf hN tk hh ⟨J.ofTry ok, nb, na, os, ag, fl, up.trans up'⟩ w'
  · rintro f s' q
    match f, q with
    | .next, ⟨_, _, J, q⟩ => exact wpAny_execs_nil ⟨_, _, J.ofTry ok, q⟩
    | .brk, ⟨_, _, J, q⟩ => exact ⟨_, _, J.ofTry ok, q⟩
    | .cont, ⟨_, _, J, q⟩ => exact ⟨_, _, J.ofTry ok, q⟩
    | .ret _, ⟨_, _, _, J, r, q⟩ => exact ⟨_, _, _, J.ofTry ok, r, q⟩
end
end Jf
set_option Elab.async false
set_option linter.all false
set_option maxRecDepth 100000
set_option maxHeartbeats 4000000
namespace Jf
open PySem PySem.Spec PyProof.Rows L2 HT
/-! ### t[::-1] of a tuple -/
section
variable {prog : Program} {w : World} {A : Around} {E : Value → Shared → Prop} {s : Shared}
theorem rev_adjust (n : Nat) : Builtin.Slice.sliceAdjust none none (-1) (n : Int) = ((n : Int) - 1, -1) := by
  unfold Builtin.Slice.sliceAdjust
  simp
theorem rev_places (n : Nat) : Builtin.Slice.slicePlaces ((n : Int) - 1) (-1) (-1) = n := by
  unfold Builtin.Slice.slicePlaces
  have h1 : ¬ ((-1 : Int) > 0) := by decide
  simp only [h1, if_false]
  by_cases h : (n : Int) - 1 > -1
  · rw [if_pos h, show (- -1 : Int) = 1 by decide, Int.ediv_one]
    omega
  · rw [if_neg h]
    omega
theorem sliceApplied_rev {sl : Addr} {vl vu vs : Value} {n : Nat} {Q : Int × Int × Nat → Shared → Prop} (hs : s.heap.IsSliceOf sl vl vu vs) (pl : IsPart vl none) (pu : IsPart vu none) (ps : IsPart vs (some (-1)))
    (h : Q ((n : Int) - 1, -1, n) s) : wpAny (model prog w) A (Builtin.Slice.sliceApplied (.ref sl) (pure (n : Int))) Q E s := by
  obtain ⟨os, hos, hcs, hds⟩ := id hs
  unfold Builtin.Slice.sliceApplied Builtin.Slice.sliceFields
  refine wpAny_bind (wpAny_bind (wpAny_field hos hds (x := vl) rfl (wpAny_bind (wpAny_field hos hds (x := vu) rfl (wpAny_bind (wpAny_field hos hds (x := vs) rfl (wpAny_pure ?_)))))))
  refine wpAny_bind (slicePart_ ps ?_)
  show wpAny _ _ (if ((-1 : Int) == 0) = true then _ else _) _ _ s
  rw [if_neg (by decide)]
  refine wpAny_bind (slicePart_ pl (wpAny_bind (slicePart_ pu (wpAny_bind (wpAny_pure ?_)))))
  show wpAny _ _ (match Builtin.Slice.sliceAdjust none none (-1) (n : Int) with | (lo, hi) => pure (lo, (-1 : Int), Builtin.Slice.slicePlaces lo hi (-1))) _ _ s
  rw [rev_adjust n]
  show wpAny _ _ (pure ((n : Int) - 1, (-1 : Int), Builtin.Slice.slicePlaces ((n : Int) - 1) (-1) (-1))) _ _ s
  rw [rev_places]
  exact wpAny_pure h
theorem pick_rev (xs : Array Value) : ((List.range xs.size).filterMap fun (m : Nat) => xs[((xs.size : Int) - 1 + (m : Int) * (-1)).toNat]?).toArray = xs.toList.reverse.toArray := by
  have e : (fun (m : Nat) => xs[((xs.size : Int) - 1 + (m : Int) * (-1)).toNat]?) = fun m => xs[xs.size - 1 - m]? := by
    funext m
    have : ((xs.size : Int) - 1 + (m : Int) * (-1)).toNat = xs.size - 1 - m := by omega
    rw [this]
  rw [e]
  have e2 : ((List.range xs.size).filterMap fun m => xs[xs.size - 1 - m]?) = ((List.range xs.size).map fun m => xs.size - 1 - m).filterMap (xs[·]?) := by
    rw [List.filterMap_map]
    rfl
  rw [e2, PySem.W.krv_range, List.filterMap_reverse, PySem.W.krv_all]
theorem getItem_tuple_rev {t sl : Addr} {items : Array Value} {vl vu vs : Value} {Q : Value → Shared → Prop} (ht : IsTup s.heap t items) (hs : s.heap.IsSliceOf sl vl vu vs) (pl : IsPart vl none) (pu : IsPart vu none) (ps : IsPart vs (some (-1)))
    (h : Q (.ref s.heap.objs.size) { s with heap := s.heap.push { cls := .type "tuple", data := .seq items.toList.reverse.toArray } })
    (hsz : items.size ≤ sizeLine) : wpAny (model prog w) A (getItem (.ref t) (.ref sl)) Q E s := by
  have htake : sizeOk (.seq items.toList.reverse.toArray) := by
    show items.toList.reverse.toArray.size ≤ sizeLine
    rw [List.size_toArray, List.length_reverse, Array.length_toList]
    exact hsz
  obtain ⟨os, hos, hcs, hds⟩ := id hs
  have hTs : s.TypeIs (.ref sl) "slice" := ⟨os, hos, hcs⟩
  unfold getItem
  try with_reducible refine wpAny_holding ?_
  first | refine wpAny_bind (wpAny_pure ?_) | skip
  refine wpAny_bind (wpAny_sequenceKey ht.typeIs (by decide) ?_)
  refine wpAny_bind (wpAny_callSpecial?_slot (name := Str.ofString "__getitem__") ht.typeIs PyProof.Rows.slot_tuple_getitem
    (wpAny_call_entry PyProof.Rows.slot_tuple_getitem ht.typeIs entry_tuple_getitem ?_ (args_tuple_getitem _ _)))
  show wpAny _ _ (Builtin.Tuple.tupleItemsOf (.ref t) >>= _) _ _ s
  refine wpAny_bind (tupleItemsOf_ ht ?_)
  refine wpAny_bind (wpAny_typeOf hTs ?_)
  rw [if_pos (by decide)]
  refine wpAny_bind (sliceApplied_rev hs pl pu ps ?_)
  have hno : ¬ ((((items.size : Int) - 1) == 0 && (-1 : Int) == 1 && items.size == items.size) = true) := by
    intro q
    rw [Bool.and_eq_true, Bool.and_eq_true] at q
    exact absurd q.1.2 (by decide)
  show wpAny _ _ (if (((items.size : Int) - 1) == 0 && (-1 : Int) == 1 && items.size == items.size) = true then _ else _) _ _ s
  rw [if_neg hno, pick_rev]
  first
    | exact wpAny_bind (m := Builtin.Tuple.tupleExact _) (wpAny_newObj_type (wpAny_pure ⟨_, rfl, wpAny_pure h⟩) htake)
    | exact wpAny_bind (m := Builtin.Tuple.tupleExact _) (wpAny_newObj_type (wpAny_bind (wpAny_pure (wpAny_pure ⟨_, rfl, wpAny_pure h⟩))) htake)
    | exact wpAny_bind (wpAny_bind (m := Builtin.Tuple.tupleExact _) (wpAny_newObj_type (wpAny_pure (wpAny_pure ⟨_, rfl, wpAny_pure h⟩)) htake))
    | exact wpAny_bind (wpAny_bind (m := Builtin.Tuple.tupleExact _) (wpAny_newObj_type (wpAny_pure ⟨_, rfl, wpAny_pure h⟩) htake))
end
def tRevT (K : PySem.W.Frag) (te : TE) : TE := fun σ H Q => te σ H fun x H1 => ∃ a xs, x = .ref a ∧ SqT K H1 a xs ∧ ∀ p, H1 p = none → Q (.ref p) (upd H1 p (.tup xs.reverse))
theorem pe_revT {X : Cx} {e : Expr} {te : TE} {k : Nat} {p1 p2 p3 pos : Pos} (he : PE X e te) : PE X (.Subscript e (.Slice none none (some (.UnaryOp .USub (.Constant (.int 1) k p1) p2)) p3) pos) (tRevT X.K te) := by
  refine ⟨fun pins s σ H Q I h => ?_⟩
  refine Subscript_ (thn (he.run pins s σ H _ I h) fun v s1 ⟨x, H1, I1, r1, q1⟩ => ?_)
  obtain ⟨a, xs, ex, hx, q⟩ := q1
  subst ex
  cases r1
  have hst : PO X (some (.UnaryOp .USub (.Constant (.int 1) k p1) p2)) (tPart (tUn (rU fun i => .int (-i)) (tC (.int 1)))) := po_some (pe_un un_neg pe_int)
  refine wpAny_Slice (thn (po_none.run pins s1 σ H1 (fun o H2 => o = none ∧ H2 = H1) I1 ⟨rfl, rfl⟩) fun vl s2 ⟨l, H2, I2, pl, el, e2⟩ => ?_)
  subst el e2
  refine thn (po_none.run pins s2 σ H2 (fun o H3 => o = none ∧ H3 = H2) I2 ⟨rfl, rfl⟩) fun vu s3 ⟨u, H3, I3, pu, eu, e3⟩ => ?_
  subst eu e3
  refine thn (hst.run pins s3 σ H3 (fun o H4 => o = some (-1) ∧ H4 = H3) I3 ⟨1, rfl, -1, rfl, rfl, rfl⟩) fun vs s4 ⟨o, H4, I4, ps, eo, e4⟩ => ?_
  subst eo e4
  have I5 : Inv X pins σ H4 { s4 with heap := s4.heap.push { cls := .type "slice", data := .fields #[vl, vu, vs] } } := I4.kept (t' := s4.toks) fun b ob q => Heap.get?_push_of_some _ q
  obtain ⟨its, r, ht, hz⟩ := I5.tuple hx
  have hlen := r.length
  show wpAny (model X.prog X.w) X.A (subscriptTail e (.Slice none none (some (.UnaryOp .USub (.Constant (.int 1) k p1) p2)) p3) (.ref a) (.ref s4.heap.objs.size)) (EP X pins σ Q) X.xe { s4 with heap := s4.heap.push { cls := .type "slice", data := .fields #[vl, vu, vs] } }
  refine tail_any (ops := [.ref a, .ref s4.heap.objs.size]) ht.typeIs (PyProof.Rows.slot_tuple_getitem.lookup) ?_ (by with_unfolding_all rfl)
  refine getItem_tuple_rev ht (Heap.IsSliceOf.new _ vl vu vs) pl pu ps ?_ (by rw [List.size_toArray]; omega)
  refine ⟨.ref _, _, I5.laid (t' := s4.toks) (o := .tup xs.reverse) (fun b ob q => Heap.get?_push_of_some _ q) (Nat.le_refl _) ?_, rfl, q _ (I5.hok.fresh (Nat.le_refl _))⟩
  exact ⟨by rw [List.length_reverse]; exact hz, _, r.reverse, IsTup.new _ _⟩
end Jf
set_option Elab.async false
set_option linter.all false
set_option maxRecDepth 100000
set_option maxHeartbeats 4000000
namespace Jf
open PySem PySem.Spec PyProof.Rows L2 Evl GxR
/-! ### all but tables stays -/
def ExT (H H' : Hp) : Prop := ∀ b o, (∀ ps, o ≠ HO.tbl ps) → H b = some o → H' b = some o
def TBs (Ts : List Addr) (H : Hp) : Prop := ∀ t ∈ Ts, TabG H t
section
variable {K : PySem.W.Frag} {p a : Addr} {Ts : List Addr} {H H1 H2 H' : Hp} {xs : List V} {v : V} {d : PyData} {b : Nat} {q : Rat}
theorem ExT.refl (H : Hp) : ExT H H := fun _ _ _ h => h
theorem ExT.trans (e : ExT H H1) (e' : ExT H1 H2) : ExT H H2 := fun b o n h => e' b o n (e b o n h)
theorem Ex.t (e : Ex H H') : ExT H H' := fun b o _ h => e b o h
theorem ExT.l (e : ExT H H') (h : H a = some (.lst xs)) : H' a = some (.lst xs) := e a _ (fun _ z => nomatch z) h
theorem ExT.k {kvs : List (Key × V)} (e : ExT H H') (h : H a = some (.dK kvs)) : H' a = some (.dK kvs) := e a _ (fun _ z => nomatch z) h
theorem ExT.sl (e : ExT H H') (h : SqL K H a xs) : SqL K H' a xs := by
  rcases h with (h | ⟨o, h⟩) | h
  · exact .inl (.inl (e a _ (fun _ z => nomatch z) h))
  · exact .inl (.inr ⟨o, e a _ (fun _ z => nomatch z) h⟩)
  · exact .inr h
theorem ExT.st (e : ExT H H') (h : SqT K H a xs) : SqT K H' a xs := by
  rcases h with (h | ⟨o, h⟩) | h
  · exact .inl (.inl (e a _ (fun _ z => nomatch z) h))
  · exact .inl (.inr ⟨o, e a _ (fun _ z => nomatch z) h⟩)
  · exact .inr h
end
section
variable {K : PySem.W.Frag} {p : Addr} {H H' : Hp}
mutual
theorem Dq.xt (e : ExT H H') : ∀ (d : PyData) (v : V), Dq K p H v d → Dq K p H' v d
  | _, _, .non => .non
  | _, _, .bl b => .bl b
  | _, _, .int i => .int i
  | _, _, .str x => .str x
  | _, _, .lst n m h hs => .lst n m (ExT.l e h) (DqAll.xt e _ _ hs)
  | _, _, .tup h hs => .tup (ExT.st e h) (DqAll.xt e _ _ hs)
  | _, _, .emp h => .emp (ExT.k e h)
theorem DqAll.xt (e : ExT H H') : ∀ (ds : List PyData) (vs : List V), DqAll K p H vs ds → DqAll K p H' vs ds
  | _, _, .nil => .nil
  | _, _, .cons h hs => .cons (Dq.xt e _ _ h) (DqAll.xt e _ _ hs)
end
end
section
variable {K : PySem.W.Frag} {p a : Addr} {Ts : List Addr} {H H1 H2 H' : Hp} {xs : List V} {v : V} {d : PyData} {b : Nat} {q : Rat}
theorem Fr.xt (e : ExT H H') (h : Fr K b q v H) : Fr K b q v H' := by
  obtain ⟨a, rfl, h, x⟩ := h
  exact ⟨a, rfl, e.st h, x⟩
theorem TBs.ex (h : TBs Ts H) (e : Ex H H') : TBs Ts H' := fun t ht => by
  obtain ⟨ps, h1, h2⟩ := h t ht
  exact ⟨ps, e _ _ h1, h2⟩
/-- a list's change leaves the tables -/
theorem TBs.upd {xs ys : List V} (h : TBs Ts H) (hp : H p = some (.lst xs)) (e : ∀ b o, b ≠ p → H b = some o → H' b = some o) : TBs Ts H' := fun t ht => by
  obtain ⟨ps, h1, h2⟩ := h t ht
  exact ⟨ps, e _ _ (by rintro rfl; rw [hp] at h1; cases h1) h1, h2⟩
theorem Tabd.t {T : Addr} (h : TabG H T) (t : Tabbed T H H') : ExT H H' := fun b o n e => by
  have hb : b ≠ T := by
    rintro rfl
    obtain ⟨ps, h1, _⟩ := h
    rw [e] at h1
    exact n ps (Option.some.inj h1)
  rw [t.2 b hb]
  exact e
theorem TBs.tb {T : Addr} (h : TBs Ts H) (t : Tabbed T H H') : TBs Ts H' := fun t' ht => by
  by_cases e : t' = T
  · subst e
    exact t.1
  · obtain ⟨ps, h1, h2⟩ := h t' ht
    exact ⟨ps, by rw [t.2 t' e]; exact h1, h2⟩
end
/-- a list and another: a new list, not sys.modules -/
def rCatN : R2 := fun x y H Q => ∃ l b xs zs, x = .ref l ∧ y = .ref b ∧ H l = some (.lst xs) ∧ H b = some (.lst zs) ∧ xs.length + zs.length ≤ sizeLine ∧ ∀ p, H p = none → p ≠ sysModules → Q (.ref p) (upd H p (.lst (xs ++ zs)))
theorem op_catN {X : Cx} : OpR X (binaryOp .Add) rCatN := by
  intro pins s σ H x y v u Q I rx ry h
  obtain ⟨l, b, xs, zs, rfl, rfl, hH, hB, hz, q⟩ := h
  cases rx
  cases ry
  obtain ⟨z, its, n, r, hl, e⟩ := I.lstM hH
  obtain ⟨z2, its2, n2, r2, hl2, e2⟩ := I.lstM hB
  refine PySem.P.add_list e e2 ?_ (by rw [List.size_toArray, List.size_toArray]; omega)
  have ea : its.toArray ++ its2.toArray = (its ++ its2).toArray := by simp
  rw [ea]
  exact ⟨.ref _, _, I.lnew (t' := s.toks) (r.append r2) (by rw [List.length_append]; omega), rfl, q _ I.fresh (Nat.ne_of_gt I.big)⟩
/-- a field of the error that a suite holds, whichever of our classes it is of -/
def tXfE (K : PySem.W.Frag) (a : Addr) (cls : Value) (d : Option Addr) (f : Str) (te : TE) : TE := fun σ H Q => te σ H fun x H1 => x = .ref a ∧ ∃ (C dd : Addr) (fs : List (Str × V)) (v : V), cls = .ref C ∧ XfC K C ∧ PySem.W.findIn K (.ref C) f = some none ∧ d = some dd ∧ H1 dd = some (.xd fs) ∧ fs.lookup f = some v ∧ Q v H1
theorem pe_xfE {X : Cx} {a : Addr} {oe : Obj} {cls : Value} {d : Option Addr} {pn : List (Addr × Obj)} {e : Expr} {te : TE} {pos : Pos} {n : Str}
    (hz : Zc cls d oe) (hf : ∃ vs, oe.data = .fields vs) (he : PE (X.suite a ((a, oe) :: pn)) e te) (hb : attributeBase e n X.env (eval e X.env) = eval e X.env := by rfl) :
    PE (X.suite a ((a, oe) :: pn)) (.Attribute e n pos) (tXfE X.K a cls d n te) := by
  refine ⟨fun pins s σ H Q I h => ?_⟩
  refine attr_of hb (thn (he.run pins s σ H _ I h) fun u s1 hh => ?_)
  obtain ⟨x, H1, I1, rx, ex, C, dd, fs, v, ec, T, hno, ed, ea, l, q⟩ := hh
  subst ex
  obtain rfl : u = Value.ref a := rx
  subst ec
  subst ed
  have ha := (I1.pin (a, oe) (List.mem_append_left _ List.mem_cons_self)).1
  obtain ⟨vs, hd⟩ := hf
  have hx : ObjOk X.prog X.w H1 s1.heap dd (.xd fs) := I1.hok dd _ ea
  obtain ⟨mA, hns, hr⟩ := hx
  obtain ⟨od, ho, hl⟩ := lookIn_ns hns
  obtain ⟨u, hu, ru⟩ := RelO.some_of (v := v) (o := mA n) (by rw [← l]; exact hr n)
  have J : PySem.W.InstAt s1.heap a oe C (some od) := ⟨ha, hz.1, by unfold PySem.W.notCls; rw [hd] <;> rfl, by rw [hz.2]; exact ho⟩
  exact HandSPX.exc_get I1.kIn J T.ga T.gg T.exC (PySem.W.findObj_own T.hdC hno rfl (by rw [hl, hu])) (handed_of ru) ⟨v, H1, I1.tok _, ru, q⟩
end Jf
set_option Elab.async false
set_option linter.all false
set_option maxRecDepth 100000
set_option maxHeartbeats 4000000
/-! ### enumerate(x, start=c) of a list -/
namespace PySem
open PyProof.Rows
section
variable {M : Model} {A : Around} {E : Value → Shared → Prop} {s : Shared} {env : Env}
/-- a built-in class called with keywords -/
theorem jk_callWith {pos : Pos} {T : String} {e : Expr} {rest : List Expr} {kws : List Keyword} {Q : Value → Shared → Prop}
    (h : wpAny M A (spliced (backTo pos (starEach (e :: rest) env))) (fun vs s₁ => wpAny M A (evalAll ((backToKw pos (keywordEach kws env)).map (·.2)))
      (fun kvs s₂ => wpAny M A (call (.type T) vs (((backToKw pos (keywordEach kws env)).filterMap (·.1)).zip kvs)) Q E s₂) E s₁) E s)
    (he : backTo pos (starEach (e :: rest) env) = (false, eval e env) :: backTo pos (starEach rest env) := by rfl)
    (hplain : (backTo pos (starEach (e :: rest) env)).any (·.1) = false := by rfl)
    (hall : (backToKw pos (keywordEach kws env)).all (·.1.isSome) = true := by rfl)
    (hkw : (backToKw pos (keywordEach kws env)).any (·.1.isNone) = false := by rfl) :
    wpAny M A (callWith pos (.type T) [] (backTo pos (starEach (e :: rest) env)) (backToKw pos (keywordEach kws env))) Q E s := by
  unfold callWith
  have h0 : wpAny M A (evalArgs (.type T) true (backTo pos (starEach (e :: rest) env)) (backToKw pos (keywordEach kws env))) (fun a s₁ => wpAny M A (call (.type T) ([] ++ a.pos) a.kw) Q E s₁) E s := by
    rw [he] at h ⊢
    exact evalArgs_kwB hall h
  refine wpAny_bind (wpAny_holding (wpAny_mono h0 (fun a s₁ h₁ => wpAny_bind (wpAny_standAt ?_)) fun _ _ x => x))
  simp only [hplain, hkw, Bool.or_false]
  refine wpAny_bind (wpAny_pure ?_)
  exact wpAny_bind (wpAny_mono h₁ (fun r s₂ hr => wpAny_bind (wpAny_holding (wpAny_point (wpAny_pure hr)))) fun _ _ x => x)
end
section
variable {prog : Program} {w : World} {A : Around} {E : Value → Shared → Prop} {s : Shared} {e it t : Addr} {i : Nat} {m : Int} {items : Array Value} {x old : Value}
theorem jk_enumE {Q : Option Value → Shared → Prop} (hh : A.handled = none) (he : IsEnum s.heap e it m old) (a : s.heap.IsListIter it t i) (b : s.heap.IsList t items) (hx : items[i]? = none) (k : ∀ h', Heap.ExtBut it s.heap h' → Q none { s with heap := h' }) :
    wpAny (model prog w) A (pyNext (.ref e)) Q E s := by
  have T : s.TypeIs (.ref e) "enumerate" := ⟨_, he, rfl⟩
  unfold pyNext
  refine wpAny_bind (wpAny_attempt (wpAny_callSpecial?_slot (name := Str.ofString "__next__") T F.slot_enumerate_next (wpAny_call_entry F.slot_enumerate_next T F.entry_enumerate_next
    (wpAny_bind (m := field (.ref e) 2) (wpAny_field he rfl (x := .ref it) rfl (wpAny_bind (wpAny_nextOf_list_end hh a b hx fun h' y g ⟨o, g1, g2⟩ => ?_)))) (F.args_enumerate_next_1 _))))
  exact wpAny_bind (wpAny_isInstance (T := "StopIteration") (b := true) ⟨o, g1, g2⟩ isSubtype_stop (wpAny_pure (k _ g)))
end
end PySem
namespace Jf
open PySem PySem.Spec PyProof.Rows L2 Evl
/-- the list at a, each item in a new pair with its number, counted from c -/
def IteK (K : PySem.W.Frag) (a : Addr) (c : Int) : It :=
  ⟨fun i H => ∃ (xs : List V) (x : V), SqL K H a xs ∧ xs[i]? = some x, fun i H v H' => ∃ T x, v = .ref T ∧ H T = none ∧ H' = upd H T (.tup [.int (c + (i : Nat)), x]) ∧ ∀ xs, SqL K H a xs → xs[i]? = some x, fun i H => ∃ xs : List V, SqL K H a xs ∧ xs.length ≤ i⟩
theorem turn_enumK {P : Program} {w : World} {K : PySem.W.Frag} {elts : List Expr} {kk : Nat} {tpos : Pos} (a e it : Addr) (c : Int) :
    Turn P w K (.Tuple elts kk tpos) (IteK K a c) [e, it] e (fun i h => (∃ old, IsEnum h e it (c + ((i : Nat) : Int)) old) ∧ h.IsListIter it a i ∧ e ≠ it) where
  mem := by simp
  obj := fun i h st b hb => by
    obtain ⟨⟨old, he⟩, ⟨o, ho, hc, hd⟩, _⟩ := st
    have e' : b = e ∨ b = it := by simpa using hb
    rcases e' with z | z
    · rw [z]; exact ⟨_, he, fun v q => nomatch q⟩
    · rw [z]; exact ⟨o, ho, fun v q => by rw [hd] at q; cases q⟩
  keep := fun i h h' st k => let ⟨⟨old, he⟩, hi, hne⟩ := st; ⟨⟨old, k e (by simp) _ he⟩, hi.at fun o q => k it (by simp) o q, hne⟩
  item := by
    intro X hP hw hK hc i pins s σ H E I hf st hg
    subst hP hw hK
    obtain ⟨⟨old, he⟩, hit, hne⟩ := st
    obtain ⟨xs, x, hq, hx⟩ := hg
    obtain ⟨its, rv, p, hz⟩ := I.list hq
    obtain ⟨u, hu, ru⟩ := rv.get hx
    have hel : e < s.heap.objs.size := Heap.lt_size he
    have hil : it < s.heap.objs.size := by obtain ⟨_, q, _⟩ := hit; exact Heap.lt_size q
    have ea : e ≠ a := by
      rintro rfl
      obtain ⟨o, h1, h2, _⟩ := p.isList
      rw [he] at h1
      cases h1
      exact absurd h2 (by simp)
    have ia : a ≠ it := by
      rintro rfl
      obtain ⟨o, h1, h2, _⟩ := p.isList
      obtain ⟨o', g1, g2, _⟩ := hit
      rw [h1] at g1
      cases g1
      rw [h2] at g2
      exact absurd g2 (by simp)
    have hlen := rv.length
    have hil2 : i < its.toArray.size := by
      have := (List.getElem?_eq_some_iff.mp hu).1
      simpa using this
    refine wpAny_pyNext_enum_itemC (Draws.list (prog := X.prog) (w := X.w) (A := X.A.in1) (I.ok.hd hc) it a ia its.toArray) he ⟨hit, p.isList⟩ hil2 hne (by simp [hne, ea]) fun x' h' tk hP ho hit' hT hsz hk => ?_
    obtain rfl : u = x' := by
      have hu' : its.toArray[i]? = some u := by simpa using hu
      have := hu'.symm.trans hP
      exact Option.some.inj this
    refine ⟨_, rfl, wpAny_letOwnedTupleGo_enum (s := { s with heap := h', toks := tk + 1 }) ho fun h'' he' sb => ?_⟩
    have hT2 : h''.get? s.heap.objs.size = some { cls := .type "tuple", data := .seq #[.int (c + (i : Nat)) tk, u] } := (sb.2 _ (Nat.ne_of_gt hel)).trans hT
    have new : ObjOk X.prog X.w (upd H s.heap.objs.size (.tup [.int (c + (i : Nat)), x])) h'' s.heap.objs.size (.tup [.int (c + (i : Nat)), x]) :=
      ⟨by show 2 ≤ sizeLine; decide, [.int (c + (i : Nat)) tk, u], .cons ⟨_, rfl⟩ (.cons ru .nil), ⟨_, hT2, rfl, _, rfl⟩⟩
    have I1 : Inv X pins σ (upd H s.heap.objs.size (.tup [.int (c + (i : Nat)), x])) { s with heap := h'', toks := tk + 1 } :=
      I.turnedNew (ch := [e, it]) (fun b ob hb q => (sb.2 b (fun z => hb (by simp [z]))).trans (hk b ob (fun z => hb (by simp [z])) (fun z => hb (by simp [z])) q)) hf (Nat.le_refl _) new
    refine ⟨.ref s.heap.objs.size, _, I1, rfl, ⟨_, x, rfl, I.hok.fresh (Nat.le_refl _), rfl, fun ys hy => by rw [I.list_inj hy hq]; exact hx⟩, ⟨⟨u, ?_⟩, hit'.1.at fun o q => (sb.2 it (Ne.symm hne)).trans q, hne⟩, fun b hb => ?_⟩
    · have e1 : c + ((i + 1 : Nat) : Int) = c + (i : Int) + 1 := by omega
      rw [e1]; exact he'
    · have hb' : b < s.heap.objs.size := by
        have e' : b = e ∨ b = it := by simpa using hb
        rcases e' with z | z
        · rw [z]; exact hel
        · rw [z]; exact hil
      rw [upd_ne (Nat.ne_of_lt hb')]
      exact (hf b hb).1
  done := by
    intro X hP hw hK hc i pins s σ H E I hf st hg
    subst hP hw hK
    obtain ⟨⟨old, he⟩, hit, hne⟩ := st
    obtain ⟨xs, hq, hx⟩ := hg
    obtain ⟨its, rv, p, hz⟩ := I.list hq
    obtain ⟨f0, f1, f2, f3, f4, f5⟩ := hf it (by simp)
    have hl := rv.length
    exact jk_enumE (I.ok.hd hc) he hit p.isList (by simp; omega) fun h' eb => ⟨rfl, I.turned (t' := s.toks) (fun b o hb q => eb b o hb q) f0 f1 f3 f4 f5⟩
  self := fun A i s Q E st h => let ⟨⟨_, he⟩, _⟩ := st; wpAny_pyIter_enum he h
def iEnumK (K : PySem.W.Frag) (ta tk : TA) : TI := fun σ H R => ta σ H fun vs H1 => tk σ H1 fun zs H2 => ∃ a xs c, vs = [.ref a] ∧ zs = [.int c] ∧ -(2 ^ 63) ≤ c ∧ c < 2 ^ 63 ∧ SqL K H2 a xs ∧ R (IteK K a c) H2
theorem pi_enumK {X : Cx} {e : Expr} {kws : List Keyword} {ta tk : TA} {p pos tpos : Pos} {elts : List Expr} {kk : Nat} (hg : Gl X "enumerate") (hm : X.mg "enumerate" = none) (ha : PA X [e] ta) (hk : PK X kws tk)
    (he : backTo pos (starEach [e] X.env) = (false, eval e X.env) :: backTo pos (starEach [] X.env) := by rfl) (hpl : (backTo pos (starEach [e] X.env)).any (·.1) = false := by rfl)
    (hall : (backToKw pos (keywordEach kws X.env)).all (·.1.isSome) = true := by rfl) (hnone : (backToKw pos (keywordEach kws X.env)).any (·.1.isNone) = false := by rfl) (hks : (backToKw pos (keywordEach kws X.env)).filterMap (·.1) = [Str.ofString "start"] := by rfl) :
    PI X (.Tuple elts kk tpos) (.Call (.Name "enumerate" p) [e] kws pos) (iEnumK X.K ta tk) := by
  refine ⟨fun pins s σ H R I h => ?_⟩
  refine wpAny_Call_Name_kw (ld_blt I hg hm boot_enumerate ?_)
  refine jk_callWith (thn (ha.run pos pins s σ H _ I h) fun us s1 ⟨vs, H1, I1, r1, q1⟩ => thn (hk.run pos pins s1 σ H1 _ I1 q1) fun ws s2 ⟨zs, H2, I2, r2, q2⟩ => ?_) he hpl hall hnone
  rw [hks]
  obtain ⟨a, xs, c, ex, ez, c0, c1, hq, q⟩ := q2
  subst ex ez
  obtain ⟨u, rfl, ru⟩ := vals1 r1
  obtain ⟨y, rfl, ry⟩ := vals1 r2
  cases ru
  obtain ⟨tc, rfl⟩ := ry
  obtain ⟨its, rv, p', hz⟩ := I2.list hq
  show wpAny _ _ (call (.type "enumerate") [.ref a] [(Str.ofString "start", .int c tc)]) _ _ _
  refine enum_begins_start (begins_list a its.toArray) p'.isList c0 c1 fun h' hE hit hsz hkp => wpAny_pyIter_enum hE ?_
  have I3 : Inv X pins σ H2 { s2 with heap := h' } := I2.kept (t' := s2.toks) hkp
  refine ⟨s2.heap.objs.size + 1, [s2.heap.objs.size + 1, s2.heap.objs.size], _, _, H2, rfl, I3, turn_enumK a (s2.heap.objs.size + 1) s2.heap.objs.size c, ⟨⟨.none, by
    rw [show c + ((0 : Nat) : Int) = c by omega]
    exact hE⟩, ⟨_, hit, rfl, rfl⟩, Nat.succ_ne_self _⟩, fun b hb => ?_, q⟩
  have e' : b = s2.heap.objs.size + 1 ∨ b = s2.heap.objs.size := by simpa using hb
  have hle : s2.heap.objs.size ≤ b := by
    rcases e' with z | z
    · rw [z]; exact Nat.le_add_right _ _
    · rw [z]; exact Nat.le_refl _
  exact I2.fpOk hle (I2.hok.fresh hle)
theorem walk_enumK {K : PySem.W.Frag} {a : Addr} {c : Int} {xs : List V} : Walk (IteK K a c) xs.length (fun H => SqL K H a xs) (YPair (fun i => some (.int (c + (i : Nat)))) (fun i => xs[i]?)) := by
  refine ⟨fun i _ hi q => ⟨xs, xs[i], q, by simp [hi]⟩, fun _ q => ⟨xs, q, Nat.le_refl _⟩, fun i H v H' _ q y => ?_⟩
  obtain ⟨T, x, h1, h2, h3, h4⟩ := y
  exact ⟨T, .int (c + (i : Nat)), x, h1, h2, h3, rfl, h4 xs q⟩
end Jf
set_option Elab.async false
set_option linter.all false
/-! forests of tasks: orders, the worth of an order, best orders set by set -/
namespace Jf
structure Fk where
  par : Option Nat
  pay : Rat
  fac : Rat
def parF (F : List Fk) (i : Nat) : Option Nat := (F[i]?).bind Fk.par
def payF (F : List Fk) (i : Nat) : Rat := ((F[i]?).map Fk.pay).getD 0
def facF (F : List Fk) (i : Nat) : Rat := ((F[i]?).map Fk.fac).getD 0
theorem parF_at {F : List Fk} {i : Nat} {t : Fk} (h : F[i]? = some t) : parF F i = t.par := by unfold parF; rw [h]; rfl
theorem payF_at {F : List Fk} {i : Nat} {t : Fk} (h : F[i]? = some t) : payF F i = t.pay := by unfold payF; rw [h]; rfl
theorem facF_at {F : List Fk} {i : Nat} {t : Fk} (h : F[i]? = some t) : facF F i = t.fac := by unfold facF; rw [h]; rfl
def worthF (F : List Fk) : List Nat → Rat
  | [] => 0
  | i :: r => payF F i + facF F i * worthF F r
def prodF (F : List Fk) : List Nat → Rat
  | [] => 1
  | i :: r => facF F i * prodF F r
theorem worth_app (F : List Fk) : ∀ a b : List Nat, worthF F (a ++ b) = worthF F a + prodF F a * worthF F b
  | [], b => by
    show worthF F b = 0 + 1 * worthF F b
    grind
  | i :: a, b => by
    show payF F i + facF F i * worthF F (a ++ b) = (payF F i + facF F i * worthF F a) + (facF F i * prodF F a) * worthF F b
    rw [worth_app F a b]
    grind
theorem prod_app (F : List Fk) : ∀ a b : List Nat, prodF F (a ++ b) = prodF F a * prodF F b
  | [], b => by
    show prodF F b = 1 * prodF F b
    grind
  | i :: a, b => by
    show facF F i * prodF F (a ++ b) = (facF F i * prodF F a) * prodF F b
    rw [prod_app F a b]
    grind
/-- whether a parent, if there is one, is told -/
def upL (o : Option Nat) (told : List Nat) : Bool := match o with
  | none => true
  | some p => decide (p ∈ told)
def okL (F : List Fk) (told : List Nat) (i : Nat) : Bool := decide (i < F.length) && (!decide (i ∈ told) && upL (parF F i) told)
def seqL (F : List Fk) : List Nat → List Nat → Bool
  | _, [] => true
  | told, i :: r => okL F told i && seqL F (told ++ [i]) r
theorem seqL_app (F : List Fk) : ∀ (a told b : List Nat), seqL F told (a ++ b) = (seqL F told a && seqL F (told ++ a) b)
  | [], told, b => by simp [seqL]
  | i :: a, told, b => by
    show (okL F told i && seqL F (told ++ [i]) (a ++ b)) = ((okL F told i && seqL F (told ++ [i]) a) && seqL F (told ++ i :: a) b)
    rw [seqL_app F a, Bool.and_assoc, List.append_assoc]
    rfl
/-- all orders of so many tasks, one longer each -/
def rowsF (F : List Fk) : Nat → List (List Nat)
  | 0 => [[]]
  | k + 1 => (rowsF F k).flatMap fun r => ((List.range F.length).filter (okL F r)).map fun i => r ++ [i]
theorem mem_rows (F : List Fk) : ∀ (k : Nat) (l : List Nat), l ∈ rowsF F k ↔ l.length = k ∧ seqL F [] l = true
  | 0, l => by
    show l ∈ [[]] ↔ _
    rw [List.mem_singleton, List.length_eq_zero_iff]
    constructor
    · rintro rfl
      exact ⟨rfl, rfl⟩
    · exact fun h => h.1
  | k + 1, l => by
    show l ∈ (rowsF F k).flatMap _ ↔ _
    rw [List.mem_flatMap]
    constructor
    · rintro ⟨r, hr, hl⟩
      obtain ⟨h1, h2⟩ := (mem_rows F k r).mp hr
      obtain ⟨i, hi, rfl⟩ := List.mem_map.mp hl
      obtain ⟨_, h3⟩ := List.mem_filter.mp hi
      refine ⟨by rw [List.length_append, h1]; rfl, ?_⟩
      rw [seqL_app, h2, Bool.true_and, List.nil_append]
      show (okL F r i && true) = true
      rw [h3]
      rfl
    · rintro ⟨h1, h2⟩
      obtain ⟨r, i, rfl⟩ : ∃ r i, l = r ++ [i] := by
        cases hl : l.reverse with
        | nil =>
          have := congrArg List.length hl
          rw [List.length_reverse, h1] at this
          cases this
        | cons i r => exact ⟨r.reverse, i, by rw [← List.reverse_reverse l, hl, List.reverse_cons]⟩
      rw [seqL_app, Bool.and_eq_true, List.nil_append] at h2
      have h3 : okL F r i = true := by
        have := h2.2
        show okL F r i = true
        simpa [seqL] using this
      refine ⟨r, (mem_rows F k r).mpr ⟨by simpa using h1, h2.1⟩, List.mem_map.mpr ⟨i, List.mem_filter.mpr ⟨?_, h3⟩, rfl⟩⟩
      unfold okL at h3
      simp only [Bool.and_eq_true, decide_eq_true_eq] at h3
      exact List.mem_range.mpr h3.1
theorem seqL_lt (F : List Fk) : ∀ (l told : List Nat), seqL F told l = true → ∀ i ∈ l, i < F.length
  | [], _, _, i, h => nomatch h
  | j :: r, told, h, i, hi => by
    simp only [seqL, Bool.and_eq_true] at h
    rcases List.mem_cons.mp hi with rfl | hi
    · have := h.1
      unfold okL at this
      simp only [Bool.and_eq_true, decide_eq_true_eq] at this
      exact this.1
    · exact seqL_lt F r _ h.2 i hi
/-! by bits -/
def addD (d i : Nat) : Nat := d ||| 2 ^ i
theorem add_bit (d i j : Nat) : (addD d i).testBit j = (d.testBit j || decide (i = j)) := by
  unfold addD
  rw [Nat.testBit_or, Nat.testBit_two_pow]
def upD (o : Option Nat) (d : Nat) : Bool := match o with
  | none => true
  | some p => d.testBit p
def okD (F : List Fk) (d i : Nat) : Bool := decide (i < F.length) && (!d.testBit i && upD (parF F i) d)
def seqD (F : List Fk) : Nat → List Nat → Bool
  | _, [] => true
  | d, i :: r => okD F d i && seqD F (addD d i) r
/-- the bits of what is told -/
def Told (d : Nat) (told : List Nat) : Prop := ∀ i, d.testBit i = decide (i ∈ told)
theorem Told.nil : Told 0 [] := fun i => by simp
theorem Told.add {d i : Nat} {told : List Nat} (h : Told d told) : Told (addD d i) (told ++ [i]) := fun j => by
  rw [add_bit, h j, Bool.eq_iff_iff, Bool.or_eq_true, decide_eq_true_iff, decide_eq_true_iff, decide_eq_true_iff, List.mem_append, List.mem_singleton]
  exact or_congr Iff.rfl eq_comm
theorem Told.ok {F : List Fk} {d : Nat} {told : List Nat} (h : Told d told) (i : Nat) : okD F d i = okL F told i := by
  unfold okD okL
  rw [h i]
  congr 2
  cases parF F i with
  | none => rfl
  | some p => exact h p
theorem Told.seq {F : List Fk} : ∀ (l : List Nat) {d : Nat} {told : List Nat}, Told d told → seqD F d l = seqL F told l
  | [], _, _, _ => rfl
  | i :: r, d, told, h => by
    show (okD F d i && seqD F (addD d i) r) = (okL F told i && seqL F (told ++ [i]) r)
    rw [h.ok, Told.seq r h.add]
/-- how many of the first n are told -/
def cntD (d : Nat) : Nat → Nat
  | 0 => 0
  | n + 1 => cntD d n + (if d.testBit n then 1 else 0)
theorem cnt_le (d : Nat) : ∀ n, cntD d n ≤ n
  | 0 => Nat.le_refl _
  | n + 1 => by
    have := cnt_le d n
    unfold cntD
    split <;> omega
theorem cnt_add {d i : Nat} (h : d.testBit i = false) : ∀ n, cntD (addD d i) n = cntD d n + (if i < n then 1 else 0)
  | 0 => rfl
  | n + 1 => by
    unfold cntD
    rw [cnt_add h n, add_bit]
    by_cases e : i = n
    · subst e
      rw [h]
      simp
    · by_cases l : i < n
      · simp [e, l, Nat.lt_succ_of_lt l]; omega
      · have : ¬ i < n + 1 := by omega
        simp [e, l, this]
theorem cnt_full {d : Nat} : ∀ {n}, cntD d n = n → ∀ i, i < n → d.testBit i = true
  | 0, _, i, h => absurd h (Nat.not_lt_zero _)
  | n + 1, h, i, hi => by
    unfold cntD at h
    have l := cnt_le d n
    by_cases b : d.testBit n
    · rw [if_pos b] at h
      by_cases e : i = n
      · rw [e]; exact b
      · exact cnt_full (n := n) (by omega) i (by omega)
    · rw [if_neg b] at h
      omega
theorem every_bit (n i : Nat) : (2 ^ n - 1).testBit i = decide (i < n) := Nat.testBit_two_pow_sub_one n i
theorem cnt_every : ∀ (m n : Nat), n ≤ m → cntD (2 ^ m - 1) n = n
  | m, 0, _ => rfl
  | m, n + 1, h => by
    unfold cntD
    rw [cnt_every m n (by omega), every_bit, decide_eq_true (show n < m by omega), if_pos rfl]
theorem cnt_zero : ∀ n, cntD 0 n = 0
  | 0 => rfl
  | n + 1 => by
    unfold cntD
    rw [cnt_zero n]
    simp
theorem full_every {d n : Nat} (hd : d < 2 ^ n) (h : cntD d n = n) : d = 2 ^ n - 1 := by
  refine Nat.eq_of_testBit_eq fun i => ?_
  rw [every_bit]
  by_cases l : i < n
  · rw [cnt_full h i l, decide_eq_true l]
  · rw [decide_eq_false l]
    exact Nat.testBit_lt_two_pow (Nat.lt_of_lt_of_le hd (Nat.pow_le_pow_right (by decide) (by omega)))
theorem add_lt {d i n : Nat} (hd : d < 2 ^ n) (hi : i < n) : addD d i < 2 ^ n := Nat.or_lt_two_pow hd (Nat.pow_lt_pow_right (by decide) hi)
theorem add_gt {d i : Nat} (h : d.testBit i = false) : d < addD d i := by
  have h1 : d ≤ addD d i := Nat.left_le_or
  have h2 : d ≠ addD d i := fun e => by
    have : d.testBit i = (addD d i).testBit i := congrArg (fun z : Nat => z.testBit i) e
    rw [add_bit, h] at this
    simp at this
  omega
theorem okD_lt {F : List Fk} {d i : Nat} (h : okD F d i = true) : i < F.length := by
  unfold okD at h
  simp only [Bool.and_eq_true, decide_eq_true_eq] at h
  exact h.1
theorem okD_bit {F : List Fk} {d i : Nat} (h : okD F d i = true) : d.testBit i = false := by
  unfold okD at h
  simp only [Bool.and_eq_true, Bool.not_eq_true'] at h
  exact h.2.1
theorem okD_cnt {F : List Fk} {d i : Nat} (h : okD F d i = true) : cntD (addD d i) F.length = cntD d F.length + 1 := by
  rw [cnt_add (okD_bit h), if_pos (okD_lt h)]
/-- a whole order from d on -/
def Full (F : List Fk) (d : Nat) (l : List Nat) : Prop := seqD F d l = true ∧ cntD d F.length + l.length = F.length
theorem full_cons {F : List Fk} {d i : Nat} {r : List Nat} : Full F d (i :: r) ↔ okD F d i = true ∧ Full F (addD d i) r := by
  unfold Full
  constructor
  · rintro ⟨h1, h2⟩
    simp only [seqD, Bool.and_eq_true] at h1
    refine ⟨h1.1, h1.2, ?_⟩
    rw [okD_cnt h1.1]
    rw [List.length_cons] at h2
    omega
  · rintro ⟨h1, h2, h3⟩
    rw [okD_cnt h1] at h3
    exact ⟨by simp [seqD, h1, h2], by rw [List.length_cons]; omega⟩
theorem full_iff {F : List Fk} {l : List Nat} : Full F 0 l ↔ l ∈ rowsF F F.length := by
  unfold Full
  rw [mem_rows, Told.nil.seq, cnt_zero, Nat.zero_add]
  exact ⟨fun h => ⟨h.2, h.1⟩, fun h => ⟨h.2, h.1⟩⟩
/-- every set that is not all has a task that is open, where parents stand ahead -/
theorem open_one {F : List Fk} (wf : ∀ i p, parF F i = some p → p < i) {d : Nat} (hd : d < 2 ^ F.length) (hn : d ≠ 2 ^ F.length - 1) : ∃ i, okD F d i = true := by
  have h1 : ∃ i, i < F.length ∧ d.testBit i = false := by
    apply Classical.byContradiction
    intro no
    refine hn (Nat.eq_of_testBit_eq fun i => ?_)
    rw [every_bit]
    by_cases l : i < F.length
    · rw [decide_eq_true l]
      cases hb : d.testBit i with
      | true => rfl
      | false => exact absurd ⟨i, l, hb⟩ no
    · rw [decide_eq_false l]
      exact Nat.testBit_lt_two_pow (Nat.lt_of_lt_of_le hd (Nat.pow_le_pow_right (by decide) (by omega)))
  have h2 : ∀ k i, i ≤ k → i < F.length → d.testBit i = false → ∃ i, okD F d i = true := by
    intro k
    induction k with
    | zero =>
      intro i l hi hb
      have : i = 0 := by omega
      subst this
      refine ⟨0, ?_⟩
      unfold okD
      rw [decide_eq_true hi, hb]
      cases hp : parF F 0 with
      | none => rfl
      | some p => exact absurd (wf 0 p hp) (Nat.not_lt_zero _)
    | succ k ih =>
      intro i l hi hb
      cases hp : parF F i with
      | none =>
        refine ⟨i, ?_⟩
        unfold okD
        rw [decide_eq_true hi, hb, hp]
        rfl
      | some p =>
        have lp := wf i p hp
        cases hq : d.testBit p with
        | false => exact ih p (by omega) (by omega) hq
        | true =>
          refine ⟨i, ?_⟩
          unfold okD
          rw [decide_eq_true hi, hb, hp]
          show (true && (!false && d.testBit p)) = true
          rw [hq]
          rfl
  obtain ⟨i, hi, hb⟩ := h1
  exact h2 i i (Nat.le_refl _) hi hb
structure Best (F : List Fk) (d : Nat) (q : Rat) (o : Option Nat) : Prop where
  has : ∃ l, Full F d l ∧ worthF F l = q ∧ l.head? = o
  most : ∀ l, Full F d l → worthF F l ≤ q
theorem Best.every (F : List Fk) : Best F (2 ^ F.length - 1) 0 none where
  has := ⟨[], ⟨rfl, by rw [cnt_every _ _ (Nat.le_refl _)]; rfl⟩, rfl, rfl⟩
  most := by
    rintro (_ | ⟨i, r⟩) h
    · exact Rat.le_refl
    · have := h.2
      rw [cnt_every _ _ (Nat.le_refl _), List.length_cons] at this
      omega
/-- one more task -/
theorem Best.step {F : List Fk} {d i : Nat} {q : Rat} (f0 : ∀ j, 0 ≤ facF F j) (g : ∀ j, okD F d j = true → ∃ b o, Best F (addD d j) b o ∧ payF F j + facF F j * b ≤ q) (hi : okD F d i = true) {b : Rat} {o : Option Nat} (hb : Best F (addD d i) b o) (hq : q = payF F i + facF F i * b) : Best F d q (some i) where
  has := by
    obtain ⟨l, h1, h2, h3⟩ := hb.has
    exact ⟨i :: l, full_cons.mpr ⟨hi, h1⟩, by show payF F i + facF F i * worthF F l = q; rw [h2, hq], rfl⟩
  most := by
    rintro (_ | ⟨j, r⟩) h
    · exfalso
      have h1 := h.2
      have h2 := okD_cnt hi
      have h3 := cnt_le (addD d i) F.length
      simp at h1
      omega
    · obtain ⟨hj, hr⟩ := full_cons.mp h
      obtain ⟨b', o', hb', le⟩ := g j hj
      have h1 := hb'.most r hr
      have h2 := Rat.mul_le_mul_of_nonneg_left h1 (f0 j)
      show payF F j + facF F j * worthF F r ≤ q
      grind
theorem Best.next {F : List Fk} {d i : Nat} {q : Rat} (f0 : ∀ j, 0 ≤ facF F j) (h : Best F d q (some i)) : okD F d i = true ∧ ∀ b o, Best F (addD d i) b o → q = payF F i + facF F i * b := by
  obtain ⟨l, h1, h2, h3⟩ := h.has
  cases l with
  | nil => cases h3
  | cons j r =>
    cases h3
    obtain ⟨hj, hr⟩ := full_cons.mp h1
    refine ⟨hj, fun b o hb => ?_⟩
    have a1 := hb.most r hr
    have a2 := Rat.mul_le_mul_of_nonneg_left a1 (f0 i)
    obtain ⟨l', h1', h2', _⟩ := hb.has
    have a3 := h.most (i :: l') (full_cons.mpr ⟨hj, h1'⟩)
    have e : payF F i + facF F i * worthF F r = q := h2
    have e' : worthF F (i :: l') = payF F i + facF F i * worthF F l' := rfl
    rw [e', h2'] at a3
    grind
theorem Best.stop {F : List Fk} {d : Nat} {q : Rat} (h : Best F d q none) : q = 0 ∧ Full F d [] := by
  obtain ⟨l, h1, h2, h3⟩ := h.has
  cases l with
  | nil => exact ⟨h2.symm, h1⟩
  | cons j r => cases h3
end Jf
set_option Elab.async false
set_option linter.all false
set_option maxRecDepth 100000
set_option maxHeartbeats 4000000
namespace Jf
open PySem PySem.Spec PyProof.Rows L2 Evl
/-- a list cut: a new list, not sys.modules -/
def rSlN (K : PySem.W.Frag) : V → Option Int → Option Int → Hp → VK → Prop := fun x lo hi H Q => ∃ a xs, x = .ref a ∧ SqL K H a xs ∧ ∀ p, H p = none → p ≠ sysModules → Q (.ref p) (upd H p (.lst (cutV xs lo hi)))
theorem sl_listN {X : Cx} : SlR X (rSlN X.K) := by
  intro pins s σ H x v vl vu lo hi sl Q I rx hs pl pu h
  obtain ⟨a, xs, rfl, hx, q⟩ := h
  cases rx
  obtain ⟨its, r, ht, hz⟩ := I.list hx
  have hlen := r.length
  refine ⟨"list", _, slot_list_getitem.lookup, ht.isList.typeIs, ?_⟩
  refine wpAny_getItem_list_slice ht.isList hs pl pu .none (by simp) ?_ (by rw [List.size_toArray] <;> omega)
  rw [slicePick_cut, ← hlen]
  have fr := I.hok.fresh (Nat.le_refl s.heap.objs.size)
  refine ⟨.ref s.heap.objs.size, _, I.laid (t' := s.toks) (o := .lst (cutV xs lo hi)) (fun b ob q => Heap.get?_push_of_some _ q) (Nat.le_refl _) ?_, rfl, q _ fr (Nat.ne_of_gt I.big)⟩
  exact ⟨Nat.le_trans (cutV_length xs lo hi) hz, _, 0, (r.drop (HT.sIx xs.length 0 lo)).take (HT.sIx xs.length xs.length hi - HT.sIx xs.length 0 lo), Heap.get?_push_size _ rfl⟩
end Jf
set_option Elab.async false
set_option linter.all false
set_option maxRecDepth 100000
set_option maxHeartbeats 4000000
namespace Jf
open PySem PySem.Spec PyProof.Rows L2 Evl
/-! ### the text -/
def topS (i : Nat) : Stmt := PySem.Challenge.pw_onenumber_k64_groups_of_tests.main.body.getD i (.Pass ⟨0, 0, 0, 0⟩)
abbrev s_is_whole : Stmt := topS 8
abbrev n_is_whole : List Str := ["value"]
abbrev s_is_number_below : Stmt := topS 9
abbrev n_is_number_below : List Str := ["value", "count"]
abbrev s_is_fraction : Stmt := topS 10
abbrev n_is_fraction : List Str := ["value", "top", "bottom"]
abbrev s_is_from_zero : Stmt := topS 11
abbrev n_is_from_zero : List Str := ["value"]
abbrev s_is_proper : Stmt := topS 12
abbrev n_is_proper : List Str := ["value"]
abbrev s_lowest : Stmt := topS 13
abbrev n_lowest : List Str := ["top", "bottom", "common"]
abbrev s_add : Stmt := topS 14
abbrev n_add : List Str := ["one", "other"]
abbrev s_subtract : Stmt := topS 15
abbrev n_subtract : List Str := ["one", "other"]
abbrev s_multiply : Stmt := topS 16
abbrev n_multiply : List Str := ["one", "other"]
abbrev s_negative : Stmt := topS 17
abbrev n_negative : List Str := ["amount"]
abbrev s_is_sequence : Stmt := topS 20
abbrev n_is_sequence : List Str := ["parents", "value", "told", "number"]
abbrev s_run_of : Stmt := topS 21
abbrev n_run_of : List Str := ["forest", "tasks", "paid", "weight", "number"]
abbrev s_has_bit : Stmt := topS 22
abbrev n_has_bit : List Str := ["bits", "number"]
abbrev s_open_tasks : Stmt := topS 23
abbrev n_open_tasks : List Str := ["forest", "done", "number", "parent", "_"]
abbrev s_best_by_sets : Stmt := topS 24
abbrev n_best_by_sets : List Str := ["forest", "every", "found", "done", "best", "number", "_", "pay", "factor", "paid"]
abbrev s_best_run : Stmt := topS 25
abbrev n_best_run : List Str := ["forest", "found", "order", "done", "number"]
abbrev s_is_test : Stmt := topS 28
abbrev n_is_test : List Str := ["value", "number", "price", "share", "guard"]
abbrev s_is_group : Stmt := topS 29
abbrev n_is_group : List Str := ["value", "number", "entry"]
abbrev s_require_group : Stmt := topS 30
abbrev n_require_group : List Str := ["value"]
abbrev s_as_forest : Stmt := topS 31
abbrev n_as_forest : List Str := ["group", "price", "share", "guard"]
abbrev s_term_of_group : Stmt := topS 32
abbrev n_term_of_group : List Str := ["group", "order", "term", "number", "price", "share", "_", "outcomes"]
abbrev s_is_group_order : Stmt := topS 33
abbrev n_is_group_order : List Str := ["group", "value", "_", "guard"]
abbrev s_require_group_and_order : Stmt := topS 34
abbrev n_require_group_and_order : List Str := ["group", "order"]
abbrev s_group_cost : Stmt := topS 35
abbrev n_group_cost : List Str := ["group", "order"]
abbrev s_group_term : Stmt := topS 36
abbrev n_group_term : List Str := ["group", "order"]
abbrev s_least_order : Stmt := topS 37
abbrev n_least_order : List Str := ["group"]
abbrev s__law_spread : Stmt := topS 39
abbrev n__law_spread : List Str := ["_law_cell", "_law_at", "_law_primes", "_law_mixed", "_law_one_here", "_law_rest", "_law_two", "_law_three"]
abbrev s__law_open : Stmt := topS 40
abbrev n__law_open : List Str := ["_law_script", "_law_cells", "_law_k", "_law_cell"]
abbrev s__law_take : Stmt := topS 41
abbrev n__law_take : List Str := ["_law_pen", "_law_many", "_law_at", "_law_cell", "_law_found"]
abbrev s__law_anew : Stmt := topS 42
abbrev n__law_anew : List Str := ["_law_pen"]
abbrev s__law_one : Stmt := topS 43
abbrev n__law_one : List Str := ["_law_pen", "_law_some"]
abbrev s__law_divisor : Stmt := topS 44
abbrev n__law_divisor : List Str := ["_law_one_here", "_law_other"]
abbrev s__law_frac : Stmt := topS 45
abbrev n__law_frac : List Str := ["_law_top", "_law_bottom", "_law_most"]
abbrev s__law_add : Stmt := topS 46
abbrev n__law_add : List Str := ["_law_one_here", "_law_other"]
abbrev s__law_mul : Stmt := topS 47
abbrev n__law_mul : List Str := ["_law_one_here", "_law_other"]
abbrev s__law_sub : Stmt := topS 48
abbrev n__law_sub : List Str := ["_law_one_here", "_law_other"]
abbrev s__law_is_less : Stmt := topS 49
abbrev n__law_is_less : List Str := ["_law_one_here", "_law_other"]
abbrev s__law_same : Stmt := topS 50
abbrev n__law_same : List Str := ["_law_one_here", "_law_other"]
abbrev s__law_share : Stmt := topS 51
abbrev n__law_share : List Str := ["_law_pen", "_law_bottom"]
abbrev s__law_group : Stmt := topS 52
abbrev n__law_group : List Str := ["_law_pen", "_law_many", "_law_found", "_law_number", "_law_price", "_law_part", "_law_lock"]
abbrev s__law_orders : Stmt := topS 53
abbrev n__law_orders : List Str := ["_law_group_here", "_law_rows", "_law_lap", "_law_longer", "_law_row", "_law_number"]
abbrev s__law_order_cost : Stmt := topS 54
abbrev n__law_order_cost : List Str := ["_law_group_here", "_law_order", "_law_found", "_law_weight", "_law_number"]
abbrev s__law_least : Stmt := topS 55
abbrev n__law_least : List Str := ["_law_group_here", "_law_found", "_law_order", "_law_cost"]
abbrev s__law_group_term : Stmt := topS 56
abbrev n__law_group_term : List Str := ["_law_group_here", "_law_order", "_law_found", "_law_number", "_law_price", "_law_part", "_law_rest", "_law_outcomes"]
abbrev s__law_error : Stmt := topS 57
abbrev n__law_error : List Str := ["_law_call", "_law_group_here", "_law_order", "_law_got", "error", "_law_found"]
abbrev s__law_odd_group : Stmt := topS 58
abbrev n__law_odd_group : List Str := ["_law_pen", "_law_group_here", "_law_at", "_law_price", "_law_part", "_law_lock", "_law_low", "_law_wide", "_law_far", "_law_test", "_law_bent"]
abbrev s__law_odd_order : Stmt := topS 59
abbrev n__law_odd_order : List Str := ["_law_pen", "_law_group_here", "_law_order", "_law_late", "_law_some", "_law_number", "_law_one_here"]
abbrev s_law : Stmt := topS 60
abbrev n_law : List Str := ["_law_script", "_law_pen", "_law_dear", "_law_time", "_law_group_here", "_law_orders_here", "_law_order", "_law_call", "_law_due", "_law_least_here", "_law_odd", "_law_bent", "_law_wrong", "_law_kept"]
abbrev s_i_MixError : Stmt := inClass (topS 2) 0
theorem sc_i_MixError : FnScope ["self", "value"] ["self", "value"] (defScope s_i_MixError) := ⟨rfl, rfl, rfl, by decide +kernel, rfl, by decide +kernel, by decide +kernel⟩
abbrev s_i_BadGroup : Stmt := inClass (topS 3) 0
theorem sc_i_BadGroup : FnScope ["self", "value"] ["self", "value"] (defScope s_i_BadGroup) := ⟨rfl, rfl, rfl, by decide +kernel, rfl, by decide +kernel, by decide +kernel⟩
abbrev s_i_BadGroupOrder : Stmt := inClass (topS 4) 0
theorem sc_i_BadGroupOrder : FnScope ["self", "value"] ["self", "value"] (defScope s_i_BadGroupOrder) := ⟨rfl, rfl, rfl, by decide +kernel, rfl, by decide +kernel, by decide +kernel⟩
theorem sc_is_whole : FnScope ["value"] ["value"] (defScope s_is_whole) := ⟨rfl, rfl, rfl, by decide +kernel, rfl, by decide +kernel, by decide +kernel⟩
theorem sc_is_number_below : FnScope ["value", "count"] ["value", "count"] (defScope s_is_number_below) := ⟨rfl, rfl, rfl, by decide +kernel, rfl, by decide +kernel, by decide +kernel⟩
theorem sc_is_fraction : FnScope ["value", "top", "bottom"] ["value"] (defScope s_is_fraction) := ⟨rfl, rfl, rfl, by decide +kernel, rfl, by decide +kernel, by decide +kernel⟩
theorem sc_is_from_zero : FnScope ["value"] ["value"] (defScope s_is_from_zero) := ⟨rfl, rfl, rfl, by decide +kernel, rfl, by decide +kernel, by decide +kernel⟩
theorem sc_is_proper : FnScope ["value"] ["value"] (defScope s_is_proper) := ⟨rfl, rfl, rfl, by decide +kernel, rfl, by decide +kernel, by decide +kernel⟩
theorem sc_lowest : FnScope ["top", "bottom", "common"] ["top", "bottom"] (defScope s_lowest) := ⟨rfl, rfl, rfl, by decide +kernel, rfl, by decide +kernel, by decide +kernel⟩
theorem sc_add : FnScope ["one", "other"] ["one", "other"] (defScope s_add) := ⟨rfl, rfl, rfl, by decide +kernel, rfl, by decide +kernel, by decide +kernel⟩
theorem sc_subtract : FnScope ["one", "other"] ["one", "other"] (defScope s_subtract) := ⟨rfl, rfl, rfl, by decide +kernel, rfl, by decide +kernel, by decide +kernel⟩
theorem sc_multiply : FnScope ["one", "other"] ["one", "other"] (defScope s_multiply) := ⟨rfl, rfl, rfl, by decide +kernel, rfl, by decide +kernel, by decide +kernel⟩
theorem sc_negative : FnScope ["amount"] ["amount"] (defScope s_negative) := ⟨rfl, rfl, rfl, by decide +kernel, rfl, by decide +kernel, by decide +kernel⟩
theorem sc_is_sequence : FnScope ["parents", "value", "told", "number"] ["parents", "value"] (defScope s_is_sequence) := ⟨rfl, rfl, rfl, by decide +kernel, rfl, by decide +kernel, by decide +kernel⟩
theorem sc_run_of : FnScope ["forest", "tasks", "paid", "weight", "number"] ["forest", "tasks"] (defScope s_run_of) := ⟨rfl, rfl, rfl, by decide +kernel, rfl, by decide +kernel, by decide +kernel⟩
theorem sc_has_bit : FnScope ["bits", "number"] ["bits", "number"] (defScope s_has_bit) := ⟨rfl, rfl, rfl, by decide +kernel, rfl, by decide +kernel, by decide +kernel⟩
theorem sc_open_tasks : FnScope ["forest", "done", "number", "parent", "_"] ["forest", "done"] (defScope s_open_tasks) := ⟨rfl, rfl, rfl, by decide +kernel, rfl, by decide +kernel, by decide +kernel⟩
theorem sc_best_by_sets : FnScope ["forest", "every", "found", "done", "best", "number", "_", "pay", "factor", "paid"] ["forest"] (defScope s_best_by_sets) := ⟨rfl, rfl, rfl, by decide +kernel, rfl, by decide +kernel, by decide +kernel⟩
theorem sc_best_run : FnScope ["forest", "found", "order", "done", "number"] ["forest"] (defScope s_best_run) := ⟨rfl, rfl, rfl, by decide +kernel, rfl, by decide +kernel, by decide +kernel⟩
theorem sc_is_test : FnScope ["value", "number", "price", "share", "guard"] ["value", "number"] (defScope s_is_test) := ⟨rfl, rfl, rfl, by decide +kernel, rfl, by decide +kernel, by decide +kernel⟩
theorem sc_is_group : FnScope ["value", "number", "entry"] ["value"] (defScope s_is_group) := ⟨rfl, rfl, rfl, by decide +kernel, rfl, by decide +kernel, by decide +kernel⟩
theorem sc_require_group : FnScope ["value"] ["value"] (defScope s_require_group) := ⟨rfl, rfl, rfl, by decide +kernel, rfl, by decide +kernel, by decide +kernel⟩
theorem sc_as_forest : FnScope ["group", "price", "share", "guard"] ["group"] (defScope s_as_forest) := ⟨rfl, rfl, rfl, by decide +kernel, rfl, by decide +kernel, by decide +kernel⟩
theorem sc_term_of_group : FnScope ["group", "order", "term", "number", "price", "share", "_", "outcomes"] ["group", "order"] (defScope s_term_of_group) := ⟨rfl, rfl, rfl, by decide +kernel, rfl, by decide +kernel, by decide +kernel⟩
theorem sc_is_group_order : FnScope ["group", "value", "_", "guard"] ["group", "value"] (defScope s_is_group_order) := ⟨rfl, rfl, rfl, by decide +kernel, rfl, by decide +kernel, by decide +kernel⟩
theorem sc_require_group_and_order : FnScope ["group", "order"] ["group", "order"] (defScope s_require_group_and_order) := ⟨rfl, rfl, rfl, by decide +kernel, rfl, by decide +kernel, by decide +kernel⟩
theorem sc_group_cost : FnScope ["group", "order"] ["group", "order"] (defScope s_group_cost) := ⟨rfl, rfl, rfl, by decide +kernel, rfl, by decide +kernel, by decide +kernel⟩
theorem sc_group_term : FnScope ["group", "order"] ["group", "order"] (defScope s_group_term) := ⟨rfl, rfl, rfl, by decide +kernel, rfl, by decide +kernel, by decide +kernel⟩
theorem sc_least_order : FnScope ["group"] ["group"] (defScope s_least_order) := ⟨rfl, rfl, rfl, by decide +kernel, rfl, by decide +kernel, by decide +kernel⟩
theorem sc__law_spread : FnScope ["_law_cell", "_law_at", "_law_primes", "_law_mixed", "_law_one_here", "_law_rest", "_law_two", "_law_three"] ["_law_cell", "_law_at"] (defScope s__law_spread) := ⟨rfl, rfl, rfl, by decide +kernel, rfl, by decide +kernel, by decide +kernel⟩
theorem sc__law_open : FnScope ["_law_script", "_law_cells", "_law_k", "_law_cell"] ["_law_script"] (defScope s__law_open) := ⟨rfl, rfl, rfl, by decide +kernel, rfl, by decide +kernel, by decide +kernel⟩
theorem sc__law_take : FnScope ["_law_pen", "_law_many", "_law_at", "_law_cell", "_law_found"] ["_law_pen", "_law_many"] (defScope s__law_take) := ⟨rfl, rfl, rfl, by decide +kernel, rfl, by decide +kernel, by decide +kernel⟩
theorem sc__law_anew : FnScope ["_law_pen"] ["_law_pen"] (defScope s__law_anew) := ⟨rfl, rfl, rfl, by decide +kernel, rfl, by decide +kernel, by decide +kernel⟩
theorem sc__law_one : FnScope ["_law_pen", "_law_some"] ["_law_pen", "_law_some"] (defScope s__law_one) := ⟨rfl, rfl, rfl, by decide +kernel, rfl, by decide +kernel, by decide +kernel⟩
theorem sc__law_divisor : FnScope ["_law_one_here", "_law_other"] ["_law_one_here", "_law_other"] (defScope s__law_divisor) := ⟨rfl, rfl, rfl, by decide +kernel, rfl, by decide +kernel, by decide +kernel⟩
theorem sc__law_frac : FnScope ["_law_top", "_law_bottom", "_law_most"] ["_law_top", "_law_bottom"] (defScope s__law_frac) := ⟨rfl, rfl, rfl, by decide +kernel, rfl, by decide +kernel, by decide +kernel⟩
theorem sc__law_add : FnScope ["_law_one_here", "_law_other"] ["_law_one_here", "_law_other"] (defScope s__law_add) := ⟨rfl, rfl, rfl, by decide +kernel, rfl, by decide +kernel, by decide +kernel⟩
theorem sc__law_mul : FnScope ["_law_one_here", "_law_other"] ["_law_one_here", "_law_other"] (defScope s__law_mul) := ⟨rfl, rfl, rfl, by decide +kernel, rfl, by decide +kernel, by decide +kernel⟩
theorem sc__law_sub : FnScope ["_law_one_here", "_law_other"] ["_law_one_here", "_law_other"] (defScope s__law_sub) := ⟨rfl, rfl, rfl, by decide +kernel, rfl, by decide +kernel, by decide +kernel⟩
theorem sc__law_is_less : FnScope ["_law_one_here", "_law_other"] ["_law_one_here", "_law_other"] (defScope s__law_is_less) := ⟨rfl, rfl, rfl, by decide +kernel, rfl, by decide +kernel, by decide +kernel⟩
theorem sc__law_same : FnScope ["_law_one_here", "_law_other"] ["_law_one_here", "_law_other"] (defScope s__law_same) := ⟨rfl, rfl, rfl, by decide +kernel, rfl, by decide +kernel, by decide +kernel⟩
theorem sc__law_share : FnScope ["_law_pen", "_law_bottom"] ["_law_pen"] (defScope s__law_share) := ⟨rfl, rfl, rfl, by decide +kernel, rfl, by decide +kernel, by decide +kernel⟩
theorem sc__law_group : FnScope ["_law_pen", "_law_many", "_law_found", "_law_number", "_law_price", "_law_part", "_law_lock"] ["_law_pen", "_law_many"] (defScope s__law_group) := ⟨rfl, rfl, rfl, by decide +kernel, rfl, by decide +kernel, by decide +kernel⟩
theorem sc__law_orders : FnScope ["_law_group_here", "_law_rows", "_law_lap", "_law_longer", "_law_row", "_law_number"] ["_law_group_here"] (defScope s__law_orders) := ⟨rfl, rfl, rfl, by decide +kernel, rfl, by decide +kernel, by decide +kernel⟩
theorem sc__law_order_cost : FnScope ["_law_group_here", "_law_order", "_law_found", "_law_weight", "_law_number"] ["_law_group_here", "_law_order"] (defScope s__law_order_cost) := ⟨rfl, rfl, rfl, by decide +kernel, rfl, by decide +kernel, by decide +kernel⟩
theorem sc__law_least : FnScope ["_law_group_here", "_law_found", "_law_order", "_law_cost"] ["_law_group_here"] (defScope s__law_least) := ⟨rfl, rfl, rfl, by decide +kernel, rfl, by decide +kernel, by decide +kernel⟩
theorem sc__law_group_term : FnScope ["_law_group_here", "_law_order", "_law_found", "_law_number", "_law_price", "_law_part", "_law_rest", "_law_outcomes"] ["_law_group_here", "_law_order"] (defScope s__law_group_term) := ⟨rfl, rfl, rfl, by decide +kernel, rfl, by decide +kernel, by decide +kernel⟩
theorem sc__law_error : FnScope ["_law_call", "_law_group_here", "_law_order", "_law_got", "error", "_law_found"] ["_law_call", "_law_group_here", "_law_order"] (defScope s__law_error) := ⟨rfl, rfl, rfl, by decide +kernel, rfl, by decide +kernel, by decide +kernel⟩
theorem sc__law_odd_group : FnScope ["_law_pen", "_law_group_here", "_law_at", "_law_price", "_law_part", "_law_lock", "_law_low", "_law_wide", "_law_far", "_law_test", "_law_bent"] ["_law_pen", "_law_group_here"] (defScope s__law_odd_group) := ⟨rfl, rfl, rfl, by decide +kernel, rfl, by decide +kernel, by decide +kernel⟩
theorem sc__law_odd_order : FnScope ["_law_pen", "_law_group_here", "_law_order", "_law_late", "_law_some", "_law_number", "_law_one_here"] ["_law_pen", "_law_group_here"] (defScope s__law_odd_order) := ⟨rfl, rfl, rfl, by decide +kernel, rfl, by decide +kernel, by decide +kernel⟩
theorem sc_law : FnScope ["_law_script", "_law_pen", "_law_dear", "_law_time", "_law_group_here", "_law_orders_here", "_law_order", "_law_call", "_law_due", "_law_least_here", "_law_odd", "_law_bent", "_law_wrong", "_law_kept"] ["_law_script"] (defScope s_law) := ⟨rfl, rfl, rfl, by decide +kernel, rfl, by decide +kernel, by decide +kernel⟩
/-- what the top has written -/
structure Txt (K : PySem.W.Frag) (mg : Str → Option Value) where
  d_is_whole : FT K mg "is_whole" s_is_whole ["value"]
  d_is_number_below : FT K mg "is_number_below" s_is_number_below ["value", "count"]
  d_is_fraction : FT K mg "is_fraction" s_is_fraction ["value"]
  d_is_from_zero : FT K mg "is_from_zero" s_is_from_zero ["value"]
  d_is_proper : FT K mg "is_proper" s_is_proper ["value"]
  d_lowest : FT K mg "lowest" s_lowest ["top", "bottom"]
  d_add : FT K mg "add" s_add ["one", "other"]
  d_subtract : FT K mg "subtract" s_subtract ["one", "other"]
  d_multiply : FT K mg "multiply" s_multiply ["one", "other"]
  d_negative : FT K mg "negative" s_negative ["amount"]
  d_is_sequence : FT K mg "is_sequence" s_is_sequence ["parents", "value"]
  d_run_of : FT K mg "run_of" s_run_of ["forest", "tasks"]
  d_has_bit : FT K mg "has_bit" s_has_bit ["bits", "number"]
  d_open_tasks : FT K mg "open_tasks" s_open_tasks ["forest", "done"]
  d_best_by_sets : FT K mg "best_by_sets" s_best_by_sets ["forest"]
  d_best_run : FT K mg "best_run" s_best_run ["forest"]
  d_is_test : FT K mg "is_test" s_is_test ["value", "number"]
  d_is_group : FT K mg "is_group" s_is_group ["value"]
  d_require_group : FT K mg "require_group" s_require_group ["value"]
  d_as_forest : FT K mg "as_forest" s_as_forest ["group"]
  d_term_of_group : FT K mg "term_of_group" s_term_of_group ["group", "order"]
  d_is_group_order : FT K mg "is_group_order" s_is_group_order ["group", "value"]
  d_require_group_and_order : FT K mg "require_group_and_order" s_require_group_and_order ["group", "order"]
  d_group_cost : FT K mg "group_cost" s_group_cost ["group", "order"]
  d_group_term : FT K mg "group_term" s_group_term ["group", "order"]
  d_least_order : FT K mg "least_order" s_least_order ["group"]
  d__law_spread : FT K mg "_law_spread" s__law_spread ["_law_cell", "_law_at"]
  d__law_open : FT K mg "_law_open" s__law_open ["_law_script"]
  d__law_take : FT K mg "_law_take" s__law_take ["_law_pen", "_law_many"]
  d__law_anew : FT K mg "_law_anew" s__law_anew ["_law_pen"]
  d__law_one : FT K mg "_law_one" s__law_one ["_law_pen", "_law_some"]
  d__law_divisor : FT K mg "_law_divisor" s__law_divisor ["_law_one_here", "_law_other"]
  d__law_frac : FT K mg "_law_frac" s__law_frac ["_law_top", "_law_bottom"]
  d__law_add : FT K mg "_law_add" s__law_add ["_law_one_here", "_law_other"]
  d__law_mul : FT K mg "_law_mul" s__law_mul ["_law_one_here", "_law_other"]
  d__law_sub : FT K mg "_law_sub" s__law_sub ["_law_one_here", "_law_other"]
  d__law_is_less : FT K mg "_law_is_less" s__law_is_less ["_law_one_here", "_law_other"]
  d__law_same : FT K mg "_law_same" s__law_same ["_law_one_here", "_law_other"]
  d__law_share : FT K mg "_law_share" s__law_share ["_law_pen"]
  d__law_group : FT K mg "_law_group" s__law_group ["_law_pen", "_law_many"]
  d__law_orders : FT K mg "_law_orders" s__law_orders ["_law_group_here"]
  d__law_order_cost : FT K mg "_law_order_cost" s__law_order_cost ["_law_group_here", "_law_order"]
  d__law_least : FT K mg "_law_least" s__law_least ["_law_group_here"]
  d__law_group_term : FT K mg "_law_group_term" s__law_group_term ["_law_group_here", "_law_order"]
  d__law_error : FT K mg "_law_error" s__law_error ["_law_call", "_law_group_here", "_law_order"]
  d__law_odd_group : FT K mg "_law_odd_group" s__law_odd_group ["_law_pen", "_law_group_here"]
  d__law_odd_order : FT K mg "_law_odd_order" s__law_odd_order ["_law_pen", "_law_group_here"]
  d_law : FT K mg "law" s_law ["_law_script"]
  n_abs : mg "abs" = none
  n_all : mg "all" = none
  n_bool : mg "bool" = none
  n_enumerate : mg "enumerate" = none
  n_int : mg "int" = none
  n_isinstance : mg "isinstance" = none
  n_len : mg "len" = none
  n_list : mg "list" = none
  n_range : mg "range" = none
  n_repr : mg "repr" = none
  n_reversed : mg "reversed" = none
  n_tuple : mg "tuple" = none
  n_gcd : mg "gcd" = some (.builtin "math.gcd")
  a_END : Addr
  c_END : mg "END" = some (.ref a_END)
  k_END : ∃ (o : Obj) (its : Array Value) (n : Nat), K.lookup a_END = some o ∧ o.cls = .type "tuple" ∧ o.data = .seq its n ∧ its.size ≤ sizeLine ∧ Vals [.str "end"] its.toList
  a_ZERO : Addr
  c_ZERO : mg "ZERO" = some (.ref a_ZERO)
  k_ZERO : ∃ (o : Obj) (its : Array Value) (n : Nat), K.lookup a_ZERO = some o ∧ o.cls = .type "tuple" ∧ o.data = .seq its n ∧ its.size ≤ sizeLine ∧ Vals [.int 0, .int 1] its.toList
  a_ONE : Addr
  c_ONE : mg "ONE" = some (.ref a_ONE)
  k_ONE : ∃ (o : Obj) (its : Array Value) (n : Nat), K.lookup a_ONE = some o ∧ o.cls = .type "tuple" ∧ o.data = .seq its n ∧ its.size ≤ sizeLine ∧ Vals [.int 1, .int 1] its.toList
  t_MOST_TESTS : Tok
  c_MOST_TESTS : mg "MOST_TESTS" = some (.int 4 t_MOST_TESTS)
  c_is_group : Addr
  P_is_group : Addr
  h_is_group : d_is_group.fd.code = .ref c_is_group
  n_ValueError : mg "ValueError" = none
  v_VE : PySem.W.findCls K (.type "ValueError") (.type "type") "__init__" = some (.val (.builtin "ValueError.__init__"))
  M : BaseK K mg "MixError" "MixError.__init__" s_i_MixError
  E_BadGroup : ErrK K mg "BadGroup" "BadGroup.__init__" M.C s_i_BadGroup
  E_BadGroupOrder : ErrK K mg "BadGroupOrder" "BadGroupOrder.__init__" M.C s_i_BadGroupOrder
/-! ### the law's own draws -/
/-- all but what stands at p is as it was -/
def ExB (p : Addr) (H H' : Hp) : Prop := ∀ b o, b ≠ p → H b = some o → H' b = some o
theorem ExB.refl (p : Addr) (H : Hp) : ExB p H H := fun _ _ _ h => h
theorem ExB.trans {p : Addr} {H H1 H2 : Hp} (a : ExB p H H1) (b : ExB p H1 H2) : ExB p H H2 := fun c o n h => b c o n (a c o n h)
theorem Ex.b {p : Addr} {H H1 : Hp} (a : Ex H H1) : ExB p H H1 := fun c o _ h => a c o h
theorem ExB.upd {p : Addr} {H H1 : Hp} {o : HO} (a : ExB p H H1) : ExB p H (upd H1 p o) := fun c o n h => by
  rw [upd_ne n]
  exact a c o n h
/-- the pen at p: its cells, its place, its rest -/
def Pen (H : Hp) (p a : Addr) (N : Nat) : Prop := ∃ (cs : List Int) (at_ vl : Int), H p = some (.lst [.ref a, .int at_, .int vl]) ∧ H a = some (.lst (cs.map V.int)) ∧ a ≠ p ∧ 0 ≤ at_ ∧ at_ ≤ N ∧ 0 ≤ vl ∧ cs.length ≤ 12
theorem Pen.ex {H H' : Hp} {p a : Addr} {N : Nat} (e : Ex H H') (h : Pen H p a N) : Pen H' p a N := by
  obtain ⟨cs, t, v, h1, h2, r⟩ := h
  exact ⟨cs, t, v, e _ _ h1, e _ _ h2, r⟩
theorem Pen.mono {H : Hp} {p a : Addr} {N M : Nat} (e : N ≤ M) (h : Pen H p a N) : Pen H p a M := by
  obtain ⟨cs, t, v, h1, h2, h3, h4, h5, r⟩ := h
  exact ⟨cs, t, v, h1, h2, h3, h4, by omega, r⟩
theorem Pen.hasP {H : Hp} {p a : Addr} {N : Nat} (h : Pen H p a N) : ∃ xs, H p = some (.lst xs) := by
  obtain ⟨cs, t, v, h1, _⟩ := h
  exact ⟨_, h1⟩
theorem Pen.hasC {H : Hp} {p a : Addr} {N : Nat} (h : Pen H p a N) : ∃ xs, H a = some (.lst xs) := by
  obtain ⟨cs, t, v, _, h1, _⟩ := h
  exact ⟨_, h1⟩
/-- a new or another object's store leaves it -/
theorem Pen.upd {H : Hp} {p a q : Addr} {N : Nat} {o : HO} (h : Pen H p a N) (h1 : q ≠ p) (h2 : q ≠ a) : Pen (upd H q o) p a N := by
  obtain ⟨cs, t, v, e1, e2, r⟩ := h
  exact ⟨cs, t, v, by rw [upd_ne h1.symm]; exact e1, by rw [upd_ne h2.symm]; exact e2, r⟩
/-- a tuple stays where a list changes -/
theorem tup_lst {K : PySem.W.Frag} {H H' : Hp} {p c : Addr} {xs ys : List V} (hp : H p = some (.lst xs)) (e : ExB p H H') (h : SqT K H c ys) : SqT K H' c ys := by
  rcases h with (h | ⟨o, h⟩) | h
  · exact .inl (.inl (e c _ (by rintro rfl; rw [hp] at h; cases h) h))
  · exact .inl (.inr ⟨o, e c _ (by rintro rfl; rw [hp] at h; cases h) h⟩)
  · exact .inr h
theorem Fr.lst {K : PySem.W.Frag} {H H' : Hp} {p : Addr} {xs : List V} {b : Nat} {q : Rat} {z : V} (hp : H p = some (.lst xs)) (e : ExB p H H') (h : Fr K b q z H) : Fr K b q z H' := by
  obtain ⟨c, rfl, h, x⟩ := h
  exact ⟨c, rfl, tup_lst hp e h, x⟩
/-- a way through a block, joined behind its first statement -/
theorem s_join {t u : TS} {D : Ends} {σ : L2.St} {H : Hp} (R : L2.St → Hp → Prop) (h1 : ∀ N : L2.St → Hp → Prop, (∀ σ H, R σ H → N σ H) → t { D with nx := N } σ H) (h2 : ∀ σ H, R σ H → u D σ H) : tSeq t u D σ H := h1 (u D) h2
theorem n_seq {t u : TS} {D : Ends} {σ : L2.St} {H : Hp} (h : t { D with nx := u D } σ H) : tSeq t u D σ H := h
theorem n_c {i : Nat} {v : V} {D : Ends} {σ : L2.St} {H : Hp} (h : D.nx (σ.set i (some v)) H) : tAsg (tC v) (gName i) D σ H := h
theorem atI_map {ms : List Int} {i : Int} (h0 : 0 ≤ i) (h : i < ms.length) : ∃ x, atI (ms.map V.int) i = some (.int x) := by
  obtain ⟨k, rfl⟩ : ∃ k : Nat, i = k := ⟨i.toNat, by omega⟩
  have hk : k < ms.length := by omega
  exact ⟨ms[k], atI_nat (by rw [List.getElem?_map, List.getElem?_eq_getElem hk]; rfl)⟩
def primes : List Int := [2147483629, 2147483587, 2147483579, 2147483563, 2147483549, 2147483543, 2147483497, 2147483489, 2147483477, 2147483423, 2147483399, 2147483353, 2147483323]
theorem prime_at {i : Int} (h0 : 0 ≤ i) (h : i < 13) : ∃ x : Int, atI (primes.map V.int) i = some (.int x) ∧ 0 < x ∧ x < 2147483648 := by
  have hk : ∀ k : Fin 13, ∃ x : Int, (primes.map V.int)[k.val]? = some (.int x) ∧ 0 < x ∧ x < 2147483648 := fun k => by
    have hl : k.val < primes.length := k.isLt
    refine ⟨primes[k.val], by rw [List.getElem?_map, List.getElem?_eq_getElem hl]; rfl, ?_⟩
    have : ∀ x ∈ primes, 0 < x ∧ x < 2147483648 := by decide
    exact this _ (List.getElem_mem hl)
  obtain ⟨x, e, hx⟩ := hk ⟨i.toNat, by omega⟩
  refine ⟨x, ?_, hx⟩
  have e2 := atI_nat e
  rwa [show ((i.toNat : Nat) : Int) = i by omega] at e2
theorem b64 {i : Int} (h0 : 0 ≤ i) (h : i < 18446744073709551616) : i.natAbs < 2 ^ 64 := by
  show i.natAbs < 18446744073709551616
  omega
section
variable {P : Program} {w : World} {K : PySem.W.Frag} {mg : Str → Option Value} {base : Heap}
def spSpread : Sp := fun vs H Q _ => ∃ c t : Int, vs = [.int c, .int t] ∧ 0 ≤ t ∧ t ≤ 1000 ∧ ∀ v H', 0 ≤ v → Ex H H' → Q (.int v) H'
theorem ok__law_spread (T : Txt K mg) : FnOk P w K mg base CX0 1 T.d__law_spread.a T.d__law_spread.fd ["_law_cell", "_law_at"] spSpread := by
  refine T.d__law_spread.F.ok sc__law_spread (fun vs H Q E h => ?_) (fun cdv A outer s H vs Q E hr h => ?_)
  · obtain ⟨c, t, rfl, _⟩ := h
    rfl
  · obtain ⟨c, t, rfl, h0, h1, k⟩ := h
    refine ⟨_, (pss_cons (ps_if (pt_cmpR op_ge (pv 0) (pe_op op_pow pe_int pe_int) (nomark _)) (pss_one (ps_ret (pv 0))) pss_nil)
      (pss_cons (ps_set (i := 2) sc__law_spread.nd rfl (Or.inl rfl) (pe_lst (pa_cons pe_int (pa_cons pe_int (pa_cons pe_int (pa_cons pe_int (pa_cons pe_int (pa_cons pe_int (pa_cons pe_int pa_nil)))))))))
      (pss_cons (ps_set (i := 2) sc__law_spread.nd rfl (Or.inl rfl) (pe_op op_cat (pv 2) (pe_lst (pa_cons pe_int (pa_cons pe_int (pa_cons pe_int (pa_cons pe_int (pa_cons pe_int (pa_cons pe_int pa_nil)))))))))
      (pss_cons (ps_set (i := 3) sc__law_spread.nd rfl (Or.inl rfl) (pe_op op_add (pe_op op_add (pe_op op_mulW (pe_op op_mod (pe_callTy call_int1 (by rfl) T.n_int (by decide +kernel) (pa_cons (pv 0) pa_nil)) pe_int) (pe_op op_add (pe_op op_mulW pe_int (pv 1)) pe_int)) (pe_op op_mulW (pv 1) pe_int)) pe_int))
      (pss_cons (ps_set (i := 4) sc__law_spread.nd rfl (Or.inl rfl) (pe_op op_mod (pe_callTy call_int1 (by rfl) T.n_int (by decide +kernel) (pa_cons (pe_op op_pow (pv 3) pe_int) pa_nil)) (pe_ix ix_list (pv 2) (pe_op op_mod (pe_callTy call_int1 (by rfl) T.n_int (by decide +kernel) (pa_cons (pv 1) pa_nil)) pe_int) (fun _ _ => rfl))))
      (pss_cons (ps_set (i := 5) sc__law_spread.nd rfl (Or.inl rfl) (pe_op op_add (pe_op op_mod (pe_callTy call_int1 (by rfl) T.n_int (by decide +kernel) (pa_cons (pv 0) pa_nil)) pe_int) pe_int))
      (pss_cons (ps_set (i := 6) sc__law_spread.nd rfl (Or.inl rfl) (pe_op op_mod (pe_callTy call_int1 (by rfl) T.n_int (by decide +kernel) (pa_cons (pe_op op_pow (pe_op op_add (pe_op op_mulW (pv 4) (pe_op op_add (pv 1) pe_int)) (pv 5)) pe_int) pa_nil)) (pe_ix ix_list (pv 2) (pe_op op_mod (pe_callTy call_int1 (by rfl) T.n_int (by decide +kernel) (pa_cons (pe_op op_add (pv 1) pe_int) pa_nil)) pe_int) (fun _ _ => rfl))))
      (pss_cons (ps_set (i := 7) sc__law_spread.nd rfl (Or.inl rfl) (pe_op op_mod (pe_callTy call_int1 (by rfl) T.n_int (by decide +kernel) (pa_cons (pe_op op_pow (pe_op op_add (pe_op op_add (pv 6) (pe_op op_mod (pe_callTy call_int1 (by rfl) T.n_int (by decide +kernel) (pa_cons (pv 4) pa_nil)) pe_int)) (pv 1)) pe_int) pa_nil)) (pe_ix ix_list (pv 2) (pe_op op_mod (pe_callTy call_int1 (by rfl) T.n_int (by decide +kernel) (pa_cons (pe_op op_add (pv 1) pe_int) pa_nil)) pe_int) (fun _ _ => rfl))))
      (pss_one (ps_ret (pe_op op_add (pe_op op_mulW (pe_op op_add (pe_op op_mulW (pv 4) pe_int) (pv 6)) pe_int) (pv 7)))))))))))), ?_⟩
    -- if cell >= 10 ** 18
    refine ⟨_, rfl, 10, 18, rfl, rfl, ⟨by decide, by decide, by decide⟩, c, _, rfl, rfl, _, rfl, ite2 (fun e => ?_) (fun e => ?_)⟩
    · have e' : (10 : Int) ^ (18 : Int).toNat ≤ c := of_decide_eq_true e
      have e2 : (10 : Int) ^ (18 : Int).toNat = 1000000000000000000 := by decide
      exact ⟨_, rfl, k c H (by omega) (Ex.refl H)⟩
    · -- the primes
      refine ⟨by show 7 ≤ sizeLine; decide, fun p1 f1 => ?_⟩
      refine ⟨.ref p1, rfl, by show 6 ≤ sizeLine; decide, fun p2 f2 => ?_⟩
      have n12 : p1 ≠ p2 := fun z => by
        rw [← z, upd_same] at f2
        cases f2
      refine ⟨p1, p2, _, _, rfl, rfl, (by rw [upd_ne n12]; exact upd_same), upd_same, (by show 13 ≤ sizeLine; decide), fun p3 f3 => ?_⟩
      have e1 : Ex H (upd (upd (upd H p1 (.lst [.int 2147483629, .int 2147483587, .int 2147483579, .int 2147483563, .int 2147483549, .int 2147483543, .int 2147483497])) p2 (.lst [.int 2147483489, .int 2147483477, .int 2147483423, .int 2147483399, .int 2147483353, .int 2147483323])) p3 (.lst ([.int 2147483629, .int 2147483587, .int 2147483579, .int 2147483563, .int 2147483549, .int 2147483543, .int 2147483497] ++ [.int 2147483489, .int 2147483477, .int 2147483423, .int 2147483399, .int 2147483353, .int 2147483323]))) :=
        ((Ex.new f1).trans (Ex.new f2)).trans (Ex.new f3)
      have hp : SqL K (upd (upd (upd H p1 (.lst [.int 2147483629, .int 2147483587, .int 2147483579, .int 2147483563, .int 2147483549, .int 2147483543, .int 2147483497])) p2 (.lst [.int 2147483489, .int 2147483477, .int 2147483423, .int 2147483399, .int 2147483353, .int 2147483323])) p3 (.lst ([.int 2147483629, .int 2147483587, .int 2147483579, .int 2147483563, .int 2147483549, .int 2147483543, .int 2147483497] ++ [.int 2147483489, .int 2147483477, .int 2147483423, .int 2147483399, .int 2147483353, .int 2147483323]))) p3 (primes.map V.int) := SqL.of upd_same
      -- mixed
      have a0 : 0 ≤ c % 1000000007 := Int.emod_nonneg _ (by decide)
      have a1 : c % 1000000007 < 1000000007 := Int.emod_lt_of_pos _ (by decide)
      generalize hc : c % 1000000007 = m at a0 a1
      have b0 : 0 ≤ m * (2 * t + 69069) := Int.mul_nonneg a0 (by omega)
      have b1 : m * (2 * t + 69069) ≤ 1000000007 * 71069 := Int.le_trans (Int.mul_le_mul_of_nonneg_right (by omega : m ≤ 1000000007) (by omega)) (Int.mul_le_mul_of_nonneg_left (by omega) (by decide))
      refine ⟨.int c, rfl, .inl ⟨c, rfl, c, 1000000007, rfl, rfl, (by decide : (0 : Int) < 1000000007), _, rfl, 2, t, rfl, rfl, mulW (a := 64) (b := 64) (b64 (by decide) (by decide)) (b64 h0 (by omega)) (by decide), 2 * t, 69069, rfl, rfl, c % 1000000007, 2 * t + 69069, rfl, rfl, (by rw [hc]; exact mulW (a := 64) (b := 64) (b64 a0 (by omega)) (b64 (by omega) (by omega)) (by decide)), ?_⟩⟩
      rw [hc]
      refine ⟨_, rfl, t, 40503, rfl, rfl, mulW (a := 64) (b := 64) (b64 h0 (by omega)) (b64 (by decide) (by decide)) (by decide), m * (2 * t + 69069), t * 40503, rfl, rfl, m * (2 * t + 69069) + t * 40503, 977, rfl, rfl, ?_⟩
      have m0 : 0 ≤ m * (2 * t + 69069) + t * 40503 + 977 := by omega
      have m1 : m * (2 * t + 69069) + t * 40503 + 977 < 18446744073709551616 := by omega
      -- one
      refine ⟨_, rfl, m * (2 * t + 69069) + t * 40503 + 977, 3, rfl, rfl, ⟨by decide, by decide, b64 m0 m1⟩, .inl ⟨_, rfl, _, rfl, _, rfl, .inl ⟨t, rfl, t, 13, rfl, rfl, (by decide : (0 : Int) < 13), ?_⟩⟩⟩
      obtain ⟨x1, g1, q1, r1⟩ := prime_at (i := t % 13) (Int.emod_nonneg _ (by decide)) (Int.emod_lt_of_pos _ (by decide))
      refine ⟨p3, _, t % 13, .int x1, rfl, rfl, hp, g1, _, x1, rfl, rfl, q1, ?_⟩
      have o0 : 0 ≤ (m * (2 * t + 69069) + t * 40503 + 977) ^ (3 : Int).toNat % x1 := Int.emod_nonneg _ (by omega)
      have o1 : (m * (2 * t + 69069) + t * 40503 + 977) ^ (3 : Int).toNat % x1 < 2147483648 := Int.lt_trans (Int.emod_lt_of_pos _ q1) r1
      dsimp only
      generalize (m * (2 * t + 69069) + t * 40503 + 977) ^ (3 : Int).toNat % x1 = o at o0 o1 ⊢
      -- rest
      refine ⟨.int c, rfl, .inl ⟨c, rfl, c, 65537, rfl, rfl, (by decide : (0 : Int) < 65537), c % 65537, 5, rfl, rfl, ?_⟩⟩
      have s0 : 0 ≤ c % 65537 := Int.emod_nonneg _ (by decide)
      have s1 : c % 65537 < 65537 := Int.emod_lt_of_pos _ (by decide)
      dsimp only
      generalize c % 65537 = s2 at s0 s1 ⊢
      -- two
      have w0 : 0 ≤ o * (t + 3) := Int.mul_nonneg o0 (by omega)
      have w1 : o * (t + 3) ≤ 2147483648 * 1003 := Int.le_trans (Int.mul_le_mul_of_nonneg_right (by omega : o ≤ 2147483648) (by omega)) (Int.mul_le_mul_of_nonneg_left (by omega) (by decide))
      refine ⟨.int o, rfl, .int t, rfl, t, 3, rfl, rfl, o, t + 3, rfl, rfl, mulW (a := 64) (b := 64) (b64 o0 (by omega)) (b64 (by omega) (by omega)) (by decide), .int (s2 + 5), rfl, o * (t + 3), s2 + 5, rfl, rfl, o * (t + 3) + (s2 + 5), 5, rfl, rfl, ⟨by decide, by decide, b64 (by omega) (by omega)⟩, .inl ⟨_, rfl, _, rfl, .int t, rfl, t, 5, rfl, rfl, .inl ⟨t + 5, rfl, t + 5, 13, rfl, rfl, (by decide : (0 : Int) < 13), ?_⟩⟩⟩
      obtain ⟨x2, g2, q2, r2⟩ := prime_at (i := (t + 5) % 13) (Int.emod_nonneg _ (by decide)) (Int.emod_lt_of_pos _ (by decide))
      refine ⟨p3, _, (t + 5) % 13, .int x2, rfl, rfl, hp, g2, _, x2, rfl, rfl, q2, ?_⟩
      have u0 : 0 ≤ (o * (t + 3) + (s2 + 5)) ^ (5 : Int).toNat % x2 := Int.emod_nonneg _ (by omega)
      have u1 : (o * (t + 3) + (s2 + 5)) ^ (5 : Int).toNat % x2 < 2147483648 := Int.lt_trans (Int.emod_lt_of_pos _ q2) r2
      dsimp only
      generalize (o * (t + 3) + (s2 + 5)) ^ (5 : Int).toNat % x2 = y at u0 u1 ⊢
      -- three
      have z0 : 0 ≤ o % 1009 := Int.emod_nonneg _ (by decide)
      have z1 : o % 1009 < 1009 := Int.emod_lt_of_pos _ (by decide)
      refine ⟨.int y, rfl, .int o, rfl, .inl ⟨o, rfl, o, 1009, rfl, rfl, (by decide : (0 : Int) < 1009), y, o % 1009, rfl, rfl, .int t, rfl, y + o % 1009, t, rfl, rfl, y + o % 1009 + t, 3, rfl, rfl, ⟨by decide, by decide, b64 (by omega) (by omega)⟩, .inl ⟨_, rfl, _, rfl, .int t, rfl, t, 7, rfl, rfl, .inl ⟨t + 7, rfl, t + 7, 13, rfl, rfl, (by decide : (0 : Int) < 13), ?_⟩⟩⟩⟩
      obtain ⟨x3, g3, q3, r3⟩ := prime_at (i := (t + 7) % 13) (Int.emod_nonneg _ (by decide)) (Int.emod_lt_of_pos _ (by decide))
      refine ⟨p3, _, (t + 7) % 13, .int x3, rfl, rfl, hp, g3, _, x3, rfl, rfl, q3, ?_⟩
      have v0 : 0 ≤ (y + o % 1009 + t) ^ (3 : Int).toNat % x3 := Int.emod_nonneg _ (by omega)
      dsimp only
      generalize (y + o % 1009 + t) ^ (3 : Int).toNat % x3 = y3 at v0 ⊢
      -- return
      refine ⟨.int o, rfl, o, 2147483647, rfl, rfl, mulW (a := 64) (b := 64) (b64 o0 (by omega)) (b64 (by decide) (by decide)) (by decide), .int y, rfl, o * 2147483647, y, rfl, rfl, o * 2147483647 + y, 2147483647, rfl, rfl, mulW (a := 64) (b := 64) (b64 (by omega) (by omega)) (b64 (by decide) (by decide)) (by decide), .int y3, rfl, _, y3, rfl, rfl, ?_⟩
      exact k _ _ (by omega) e1
def spTake (K : PySem.W.Frag) : Sp := fun vs H Q _ => ∃ (p a : Addr) (m : Int) (N : Nat), vs = [.ref p, .int m] ∧ Pen H p a N ∧ 0 < m ∧ m < 1073741824 ∧ N ≤ 990 ∧ ∀ r H', 0 ≤ r → r < m → ExB p H H' → Pen H' p a (N + 1) → Q (.int r) H'
theorem ok__law_take (T : Txt K mg) : FnOk P w K mg base CX0 2 T.d__law_take.a T.d__law_take.fd ["_law_pen", "_law_many"] (spTake K) := by
  refine T.d__law_take.F.ok sc__law_take (fun vs H Q E h => ?_) (fun cdv A outer s H vs Q E hr h => ?_)
  · obtain ⟨p, a, m, N, rfl, _⟩ := h
    rfl
  · obtain ⟨p, a, m, N, rfl, ⟨cs, t, v, hp, ha, hne, t0, t1, v0, hlen⟩, m0, m1, hN, k⟩ := h
    refine ⟨_, (pss_cons (ps_if (pt_cmpR op_lt (pe_ix ix_list (pv 0) pe_int (fun _ _ => rfl)) (pv 1) (nomark _)) (pss_cons (ps_set (i := 2) sc__law_take.nd rfl (Or.inl rfl) (pe_ix ix_list (pv 0) pe_int (fun _ _ => rfl)))
      (pss_cons (ps_set (i := 3) sc__law_take.nd rfl (Or.inl rfl) pe_int)
      (pss_cons (ps_if (pt_cmpR op_lt (pv 2) (pe_callB call_len_seq (by rfl) T.n_len (by decide +kernel) (pa_cons (pe_ix ix_list (pv 0) pe_int (fun _ _ => rfl)) pa_nil)) (nomark _)) (pss_one (ps_set (i := 3) sc__law_take.nd rfl (Or.inl rfl) (pe_ix ix_list (pe_ix ix_list (pv 0) pe_int (fun _ _ => rfl)) (pv 2) (fun _ _ => rfl)))) (pss_one (ps_if (pt_cmpR op_gt (pe_callB call_len_seq (by rfl) T.n_len (by decide +kernel) (pa_cons (pe_ix ix_list (pv 0) pe_int (fun _ _ => rfl)) pa_nil)) pe_int (nomark _)) (pss_one (ps_set (i := 3) sc__law_take.nd rfl (Or.inl rfl) (pe_op op_mod (pe_callTy call_int1 (by rfl) T.n_int (by decide +kernel) (pa_cons (pe_ix ix_list (pe_ix ix_list (pv 0) pe_int (fun _ _ => rfl)) (pe_op op_mod (pe_callTy call_int1 (by rfl) T.n_int (by decide +kernel) (pa_cons (pe_op op_add (pe_op op_mulW (pv 2) pe_int) pe_int) pa_nil)) (pe_callB call_len_seq (by rfl) T.n_len (by decide +kernel) (pa_cons (pe_ix ix_list (pv 0) pe_int (fun _ _ => rfl)) pa_nil))) (fun _ _ => rfl)) pa_nil)) (pe_op op_add (pe_op op_pow pe_int pe_int) (pv 2))))) pss_nil)))
      (pss_cons (ps_asg (pe_op op_add (pv 2) pe_int) (pg_sub (pv 0) pe_int set_list))
      (pss_one (ps_asg (pe_call (ok__law_spread T) (hr.mono (by decide)) (by rfl) T.d__law_spread.g T.d__law_spread.F.kp T.d__law_spread.b .nil pass0 (pa_cons (pv 3) (pa_cons (pv 2) pa_nil))) (pg_sub (pv 0) pe_int set_list))))))) pss_nil)
      (pss_cons (ps_set (i := 4) sc__law_take.nd rfl (Or.inl rfl) (pe_op op_mod (pe_callTy call_int1 (by rfl) T.n_int (by decide +kernel) (pa_cons (pe_ix ix_list (pv 0) pe_int (fun _ _ => rfl)) pa_nil)) (pv 1)))
      (pss_cons (ps_asg (pe_op op_fdivN (pe_ix ix_list (pv 0) pe_int (fun _ _ => rfl)) (pv 1)) (pg_sub (pv 0) pe_int set_list))
      (pss_one (ps_ret (pv 4)))))), ?_⟩
    have hP : ∀ {H : Hp}, H p = some (.lst [.ref a, .int t, .int v]) → SqL K H p [.ref a, .int t, .int v] := fun h => SqL.of h
    -- behind the if: the pen holds some rest
    refine s_join (fun σ H' => ∃ s2 s3 t' v', σ = [some (.ref p), some (.int m), s2, s3, none] ∧ H' p = some (.lst [.ref a, .int t', .int v']) ∧ ExB p H H' ∧ 0 ≤ t' ∧ t' ≤ N + 1 ∧ 0 ≤ v') (fun NX hNX => ?_) ?_
    · refine ⟨.ref p, rfl, p, _, 2, .int v, rfl, rfl, hP hp, rfl, .int m, rfl, v, m, rfl, rfl, _, rfl, ite2 (fun c => ?_) (fun c => ?_)⟩
      · refine ⟨.ref p, rfl, p, _, 1, .int t, rfl, rfl, hP hp, rfl, ?_⟩
        -- cell
        show tSeq (tAsg (tC (.int 0)) (gName 3)) _ _ _ _
        refine n_seq (n_c ?_)
        dsimp only
        refine s_join (fun σ H'' => ∃ c : Int, σ = [some (.ref p), some (.int m), some (.int t), some (.int c), none] ∧ H'' = H) (fun NX2 h2 => ?_) ?_
        · refine ⟨.int t, rfl, .ref p, rfl, p, _, 0, .ref a, rfl, rfl, hP hp, rfl, a, _, rfl, .inl (SqL.of ha), t, _, rfl, rfl, _, rfl, ite2 (fun d => ?_) (fun d => ?_)⟩
          · have d' : t < (cs.map V.int).length := of_decide_eq_true d
            rw [List.length_map] at d'
            obtain ⟨x, hx⟩ := atI_map (ms := cs) t0 d'
            exact ⟨.ref p, rfl, p, _, 0, .ref a, rfl, rfl, hP hp, rfl, .int t, rfl, a, _, t, .int x, rfl, rfl, SqL.of ha, hx, h2 _ _ ⟨x, rfl, rfl⟩⟩
          · refine ⟨.ref p, rfl, p, _, 0, .ref a, rfl, rfl, hP hp, rfl, a, _, rfl, .inl (SqL.of ha), _, 0, rfl, rfl, _, rfl, ite2 (fun f => ?_) (fun f => ?_)⟩
            · have f' : 0 < ((cs.map V.int).length : Int) := of_decide_eq_true f
              have f2 := f'
              rw [List.length_map] at f2
              obtain ⟨x, hx⟩ := atI_map (ms := cs) (i := (t * 5 + 3) % (cs.length : Int)) (Int.emod_nonneg _ (by omega)) (Int.emod_lt_of_pos _ f2)
              refine ⟨.ref p, rfl, p, _, 0, .ref a, rfl, rfl, hP hp, rfl, .int t, rfl, t, 5, rfl, rfl, mulW (a := 64) (b := 64) (b64 t0 (by omega)) (b64 (by decide) (by decide)) (by decide), t * 5, 3, rfl, rfl, .inl ⟨t * 5 + 3, rfl, .ref p, rfl, p, _, 0, .ref a, rfl, rfl, hP hp, rfl, a, _, rfl, .inl (SqL.of ha), _, _, rfl, rfl, f', ?_⟩⟩
              rw [List.length_map]
              refine ⟨a, _, (t * 5 + 3) % (cs.length : Int), .int x, rfl, rfl, SqL.of ha, hx, .inl ⟨x, rfl, 10, 17, rfl, rfl, ⟨by decide, by decide, by decide⟩, .int t, rfl, _, t, rfl, rfl, x, _, rfl, rfl, ?_, h2 _ _ ⟨_, rfl, rfl⟩⟩⟩
              have e2 : (10 : Int) ^ (17 : Int).toNat = 100000000000000000 := by decide
              show (0 : Int) < (10 : Int) ^ (17 : Int).toNat + t
              omega
            · exact h2 _ _ ⟨0, rfl, rfl⟩
        rintro σ H'' ⟨c1, rfl, rfl⟩
        -- pen[1] = at + 1
        refine ⟨.int t, rfl, t, 1, rfl, rfl, .ref p, rfl, p, _, 1, 1, rfl, rfl, hp, rfl, ?_⟩
        -- pen[2] = spread(cell, at)
        refine ⟨.int c1, rfl, .int t, rfl, c1, t, rfl, t0, by omega, fun v' H3 w0 e3 => ?_⟩
        refine ⟨.ref p, rfl, p, [.ref a, .int (t + 1), .int v], 2, 2, rfl, rfl, e3 _ _ upd_same, rfl, ?_⟩
        exact hNX _ _ ⟨_, _, t + 1, v', rfl, upd_same, ((ExB.upd (ExB.refl p H'')).trans (Ex.b e3)).upd, by omega, by omega, w0⟩
      · exact hNX _ _ ⟨_, _, t, v, rfl, hp, ExB.refl p H, t0, by omega, v0⟩
    · rintro σ H' ⟨s2, s3, t', v', rfl, hp', eb, a0, a1, b0⟩
      have hS : SqL K H' p [.ref a, .int t', .int v'] := SqL.of hp'
      refine ⟨.ref p, rfl, p, _, 2, .int v', rfl, rfl, hS, rfl, .inl ⟨v', rfl, .int m, rfl, v', m, rfl, rfl, m0, ?_⟩⟩
      refine ⟨.ref p, rfl, p, _, 2, .int v', rfl, rfl, hS, rfl, .int m, rfl, v', m, rfl, rfl, ⟨by omega, by omega⟩, .ref p, rfl, p, _, 2, 2, rfl, rfl, hp', rfl, ?_⟩
      refine ⟨_, rfl, k _ _ (Int.emod_nonneg _ (by omega)) (Int.emod_lt_of_pos _ m0) eb.upd ⟨cs, t', _, upd_same, ?_, hne, a0, by omega, ?_, hlen⟩⟩
      · rw [upd_ne hne]
        exact eb _ _ hne ha
      · rw [Int.fdiv_eq_ediv_of_nonneg v' (by omega)]
        exact Int.ediv_nonneg b0 (by omega)
def spAnew : Sp := fun vs H Q _ => ∃ (p a : Addr) (N : Nat), vs = [.ref p] ∧ Pen H p a N ∧ ∀ H', ExB p H H' → Pen H' p a N → Q (.ref p) H'
theorem ok__law_anew (T : Txt K mg) : FnOk P w K mg base CX0 1 T.d__law_anew.a T.d__law_anew.fd ["_law_pen"] spAnew := by
  refine T.d__law_anew.F.ok sc__law_anew (fun vs H Q E h => ?_) (fun cdv A outer s H vs Q E hr h => ?_)
  · obtain ⟨p, a, N, rfl, _⟩ := h
    rfl
  · obtain ⟨p, a, N, rfl, ⟨cs, t, v, hp, ha, hne, t0, t1, v0, hlen⟩, k⟩ := h
    refine ⟨_, (pss_cons (ps_asg pe_int (pg_sub (pv 0) pe_int set_list))
      (pss_one (ps_ret (pv 0)))), ?_⟩
    refine ⟨.ref p, rfl, p, _, 2, 2, rfl, rfl, hp, rfl, ?_⟩
    exact ⟨_, rfl, k _ (ExB.upd (ExB.refl p H)) ⟨cs, t, 0, upd_same, by rw [upd_ne hne]; exact ha, hne, t0, t1, by omega, hlen⟩⟩
def spOne (K : PySem.W.Frag) : Sp := fun vs H Q _ => ∃ (p a s : Addr) (xs : List V) (N : Nat), vs = [.ref p, .ref s] ∧ Pen H p a N ∧ H s = some (.lst xs) ∧ s ≠ p ∧ 0 < xs.length ∧ xs.length < 1073741824 ∧ N ≤ 990 ∧ ∀ (x : V) (H' : Hp), x ∈ xs → ExB p H H' → Pen H' p a (N + 1) → Q x H'
theorem ok__law_one (T : Txt K mg) : FnOk P w K mg base CX0 3 T.d__law_one.a T.d__law_one.fd ["_law_pen", "_law_some"] (spOne K) := by
  refine T.d__law_one.F.ok sc__law_one (fun vs H Q E h => ?_) (fun cdv A outer s H vs Q E hr h => ?_)
  · obtain ⟨p, a, s, xs, N, rfl, _⟩ := h
    rfl
  · obtain ⟨p, a, s, xs, N, rfl, hp, hs, hsp, l0, l1, hN, k⟩ := h
    refine ⟨_, (pss_one (ps_ret (pe_ix ix_list (pv 1) (pe_call (ok__law_take T) (hr.mono (by decide)) (by rfl) T.d__law_take.g T.d__law_take.F.kp T.d__law_take.b .nil pass0 (pa_cons (pv 0) (pa_cons (pe_callB call_len_seq (by rfl) T.n_len (by decide +kernel) (pa_cons (pv 1) pa_nil)) pa_nil))) (fun _ _ => rfl)))), ?_⟩
    refine ⟨_, rfl, _, rfl, .ref s, rfl, s, xs, rfl, .inl (SqL.of hs), p, a, _, N, rfl, hp, by omega, by omega, hN, fun r H' r0 r1 eb hp' => ?_⟩
    have hk : r.toNat < xs.length := by omega
    have hx := atI_nat (List.getElem?_eq_getElem hk)
    rw [show ((r.toNat : Nat) : Int) = r by omega] at hx
    exact ⟨s, xs, r, _, rfl, rfl, SqL.of (eb _ _ hsp hs), hx, k _ H' (List.getElem_mem hk) eb hp'⟩
theorem cut_map (ms : List Int) (lo hi : Option Int) : cutV (ms.map V.int) lo hi = ((ms.drop (HT.sIx ms.length 0 lo)).take (HT.sIx ms.length ms.length hi - HT.sIx ms.length 0 lo)).map V.int := by
  unfold cutV
  rw [List.length_map, ← List.map_drop, ← List.map_take]
def spOpen (K : PySem.W.Frag) : Sp := fun vs H Q _ => ∃ (a : Addr) (ns : List Int), vs = [.ref a] ∧ SqL K H a (ns.map V.int) ∧ ns.length ≤ 63 ∧ ∀ p c H', Ex H H' → Pen H' p c 0 → H p = none → Q (.ref p) H'
theorem ok__law_open (T : Txt K mg) : FnOk P w K mg base CX0 1 T.d__law_open.a T.d__law_open.fd ["_law_script"] (spOpen K) := by
  refine T.d__law_open.F.ok sc__law_open (fun vs H Q E h => ?_) (fun cdv A outer s H vs Q E hr h => ?_)
  · obtain ⟨a, ns, rfl, _⟩ := h
    rfl
  · obtain ⟨a, ns, rfl, hS, hl, k⟩ := h
    refine ⟨_, (pss_cons (ps_set (i := 1) sc__law_open.nd rfl (Or.inl rfl) (pe_callTy call_list_of (by rfl) T.n_list (by decide +kernel) (pa_cons (pe_slice sl_list (pv 0) po_none (po_some pe_int)) pa_nil)))
      (pss_cons (ps_for PassesOwn.never rfl (pi_enum (by rfl) T.n_enumerate (pa_cons (pe_slice sl_list (pv 0) (po_some pe_int) (po_some pe_int)) pa_nil)) (pg_tup (by rfl) (pgs_cons (pg_name (i := 2) sc__law_open.nd rfl (Or.inl rfl)) (pgs_cons (pg_name (i := 3) sc__law_open.nd rfl (Or.inl rfl)) pgs_nil))) (pss_one (ps_asg (pe_op op_add (pe_ix ix_list (pv 1) (pe_op op_mod (pe_callTy call_int1 (by rfl) T.n_int (by decide +kernel) (pa_cons (pv 2) pa_nil)) pe_int) (fun _ _ => rfl)) (pv 3)) (pg_sub (pv 1) (pe_op op_mod (pe_callTy call_int1 (by rfl) T.n_int (by decide +kernel) (pa_cons (pv 2) pa_nil)) pe_int) set_list))))
      (pss_one (ps_ret (pe_lst (pa_cons (pv 1) (pa_cons pe_int (pa_cons pe_int pa_nil)))))))), ?_⟩
    -- cells = list(script[:12])
    have e0 : ∀ n : Nat, HT.sIx n 0 none = 0 := fun n => HT.sIx_none n 0
    have e12 : HT.sIx ns.length ns.length (some 12) = min 12 ns.length := HT.sIx_nat ns.length ns.length 12
    have e12' : HT.sIx ns.length 0 (some 12) = min 12 ns.length := HT.sIx_nat ns.length 0 12
    generalize hms : (ns.drop (HT.sIx ns.length 0 (some 12))).take (HT.sIx ns.length ns.length (some 63) - HT.sIx ns.length 0 (some 12)) = ms
    have cm : cutV (ns.map V.int) (some 12) (some 63) = ms.map V.int := by
      rw [cut_map, hms]
    have cc : cutV (ns.map V.int) none (some 12) = (ns.take (min 12 ns.length)).map V.int := by
      rw [cut_map, e0, e12, List.drop_zero, Nat.sub_zero]
    have hml : 0 < ms.length → 12 ≤ ns.length := fun z => by
      rw [← hms, List.length_take, List.length_drop, e12'] at z
      omega
    refine ⟨.ref a, rfl, 12, rfl, a, _, rfl, hS, fun p1 f1 => ?_⟩
    rw [cc]
    have x1 := Ex.new (o := .lst ((ns.take (min 12 ns.length)).map V.int)) f1
    refine ⟨p1, _, rfl, .inl (SqL.of upd_same), fun p2 f2 => ?_⟩
    have x2 := Ex.new (o := .lst ((ns.take (min 12 ns.length)).map V.int)) f2
    have n2 : H p2 = none := fresh_back x1 f2
    -- for k, cell in enumerate(script[12:63])
    refine ⟨.ref a, rfl, 12, rfl, 63, rfl, a, _, rfl, ex_l (x1.trans x2) hS, fun p3 f3 => ?_⟩
    rw [cm]
    have x3 := Ex.new (o := .lst (ms.map V.int)) f3
    have n32 : p2 ≠ p3 := fun z => by
      rw [← z, upd_same] at f3
      cases f3
    have n3 : H p3 = none := fresh_back (x1.trans x2) f3
    refine ⟨p3, _, rfl, SqL.of upd_same, ?_⟩
    refine ⟨fun i m σ H' => m = ms.length - i ∧ i ≤ ms.length ∧ ∃ (s2 s3 : Option V) (cs : List Int), σ = [some (.ref a), some (.ref p2), s2, s3] ∧ Ex H H' ∧ H' p3 = some (.lst (ms.map V.int)) ∧ H' p2 = some (.lst (cs.map V.int)) ∧ cs.length = min 12 ns.length,
      ⟨ms.length, by omega, Nat.zero_le _, none, none, ns.take (min 12 ns.length), rfl, (x1.trans x2).trans x3, upd_same, by rw [upd_ne n32]; exact upd_same, by rw [List.length_take]; omega⟩, ?_⟩
    rintro i m σ H' ⟨rfl, hi, s2, s3, cs, rfl, ex, h3, h2, hcl⟩
    by_cases hlt : i < ms.length
    · refine .inr ⟨⟨_, V.int ms[i], SqL.of h3, by rw [List.getElem?_map, List.getElem?_eq_getElem hlt]; rfl⟩, fun σ' H'' => ∃ (s2 s3 : Option V) (cs : List Int), σ' = [some (.ref a), some (.ref p2), s2, s3] ∧ Ex H H'' ∧ H'' p3 = some (.lst (ms.map V.int)) ∧ H'' p2 = some (.lst (cs.map V.int)) ∧ cs.length = min 12 ns.length, fun σ' H'' q => ⟨ms.length - (i + 1), by omega, rfl, hlt, q⟩, fun x H'' y => ?_⟩
      obtain ⟨t, z, rfl, ft, rfl, hz⟩ := y
      have ez : z = V.int ms[i] := by
        have := hz _ (SqL.of h3)
        rw [List.getElem?_map, List.getElem?_eq_getElem hlt] at this
        exact (Option.some.inj this).symm
      subst ez
      have nt2 : p2 ≠ t := ne_of_none h2 ft
      have nt3 : p3 ≠ t := ne_of_none h3 ft
      have x4 := Ex.new (o := .tup [.int (i : Nat), .int ms[i]]) ft
      have g2 := x4 _ _ h2
      have hc12 : cs.length = 12 := by
        have := hml (by omega)
        omega
      have z0 : 0 ≤ (i : Int) % 12 := Int.emod_nonneg _ (by decide)
      have z1 : (i : Int) % 12 < 12 := Int.emod_lt_of_pos _ (by decide)
      obtain ⟨c, hc⟩ := atI_map (ms := cs) z0 (by omega)
      refine ⟨t, _, rfl, SqT.of upd_same, rfl, _, _, rfl, _, _, rfl, rfl, ?_⟩
      -- cells[k % 12] = cells[k % 12] + cell
      refine ⟨_, rfl, _, rfl, .inl ⟨_, rfl, _, 12, rfl, rfl, (by decide : (0 : Int) < 12), p2, _, (i : Int) % 12, .int c, rfl, rfl, SqL.of g2, hc, _, rfl, c, ms[i], rfl, rfl, ?_⟩⟩
      refine ⟨_, rfl, _, rfl, .inl ⟨_, rfl, _, 12, rfl, rfl, (by decide : (0 : Int) < 12), p2, _, (i : Int) % 12, ((i : Int) % 12).toNat, rfl, rfl, g2, ?_, ?_⟩⟩
      · unfold ixN
        rw [if_pos z0, if_pos (by rw [List.length_map]; omega)]
      · refine ⟨_, _, cs.set ((i : Int) % 12).toNat (c + ms[i]), rfl, ?_, ?_, ?_, ?_⟩
        · intro b o hb
          rw [upd_ne (ne_of_none hb n2)]
          exact x4 _ _ (ex _ _ hb)
        · rw [upd_ne n32.symm]
          exact x4 _ _ h3
        · rw [upd_same, List.map_set]
        · rw [List.length_set]
          exact hcl
    · refine .inl ⟨⟨_, SqL.of h3, by rw [List.length_map]; omega⟩, ?_⟩
      -- return [cells, 0, 0]
      refine ⟨_, rfl, by show 3 ≤ sizeLine; decide, fun p4 f4 => ?_⟩
      have n4 : p2 ≠ p4 := ne_of_none h2 f4
      exact k p4 p2 _ (ex.trans (Ex.new f4)) ⟨cs, 0, 0, upd_same, by rw [upd_ne n4]; exact h2, n4, by omega, by omega, by omega, by omega⟩ (fresh_back ex f4)
end
/-! ### the program: onenumber.errors, onenumber.amounts, for any data -/
/-- an error of the class at C that keeps v, raised from H on -/
def Er (C : Addr) (v : V) (H : Hp) (E : XK) : Prop := ∀ dd k H', Ex H H' → H' dd = some (.xd (kd k v)) → E (.ref C) (some dd) H'
theorem Er.ex {C : Addr} {v : V} {H H1 : Hp} {E : XK} (e : Ex H H1) (h : Er C v H E) : Er C v H1 E := fun dd k H' e' q => h dd k H' (e.trans e') q
theorem rd_raise {C : Addr} {v : V} {σ : L2.St} {H : Hp} {i : Nat} {E : XK} (hv : σ[i]? = some (some v)) (k : Er C v H E) : tMkO C (spInit C) [] (tCons (tVar i) tNil) σ H E := by
  refine ⟨v, hv, by show 1 ≤ 1000; decide, fun a ha => ⟨a, v, rfl, upd_same, fun dx kn H' h1 ne e1 e2 keep => ⟨rfl, dx, _, e1, e2, ?_, ?_⟩⟩⟩
  · rw [upd_ne ne] at h1
    exact h1
  · rw [upd_ne ne] at h1
    refine k dx kn _ (fun b o hb => ?_) upd_same
    have n1 : b ≠ a := ne_of_none hb ha
    rw [upd_ne (ne_of_none hb h1), del_ne n1]
    exact keep b o n1 (by rw [upd_ne n1]; exact hb)
def ival : PyData → Int
  | .int n => n
  | _ => 0
section
variable {K : PySem.W.Frag} {p : Addr} {H H' : Hp} {v : V} {d : PyData} {σ : L2.St} {i : Nat} {b : Bool}
theorem Dq.ival (h : Dq K p H v d) (hw : isWh d = true) : v = .int (ival d) ∧ d = .int (Jf.ival d) := by
  cases h with
  | int n => exact ⟨rfl, rfl⟩
  | _ => cases hw
theorem ev_isi {T : String} (hv : σ[i]? = some (some v)) (hd : Dq K p H v d) (hk : kitB (tyName d) T = some b) : Ev (tCB (rIsi K) (tCons (tVar i) (tCons (tC (.ty T)) tNil))) σ H (.bl b) :=
  fun H1 e Q k => ⟨v, hv, v, .ty T, .type (tyName d), .type T, b, rfl, .ty _, (Dq.ex e _ _ hd).ty, kit_ty hk, k H1 (Ex.refl H1)⟩
def spIsD (K : PySem.W.Frag) (sm : PyData → Prop) (f : PyData → Bool) : Sp := fun vs H Q _ => ∃ (p : Addr) (v : V) (d : PyData), vs = [v] ∧ Dq K p H v d ∧ sm d ∧ ∀ H', Ex H H' → Q (.bl (f d)) H'
theorem ev_isD {E : XK} {sm : PyData → Prop} {f : PyData → Bool} {te : TE} (he : Ev te σ H v) (hd : Dq K p H v d) (hs : sm d) : Ev (tCall (spIsD K sm f) [] E (tCons te tNil)) σ H (.bl (f d)) :=
  fun H1 e Q k => he H1 e _ fun H2 e2 => ⟨p, v, d, rfl, Dq.ex (e.trans e2) _ _ hd, hs, fun H' e' => k H' (e2.trans e')⟩
/-- nothing asked -/
def Any (_ : PyData) : Prop := True
def spReq (K : PySem.W.Frag) (C : Addr) (f : PyData → Bool) : Sp := fun vs H Q E => ∃ (p : Addr) (v : V) (d : PyData), vs = [v] ∧ Dq K p H v d ∧ (f d = true → ∀ H', Ex H H' → Q .non H') ∧ (f d = false → Er C v H E)
/-- two fractions, or none -/
def spX (K : PySem.W.Frag) (C : Addr) (ok : Rat → Prop) (R : Rat → Rat → V → Hp → Prop) : Sp := fun vs H Q E => ∃ (p : Addr) (u v : V) (d e : PyData), vs = [u, v] ∧ Dq K p H u d ∧ Dq K p H v e ∧ Bd 100 (frQ d) ∧ Bd 100 (frQ e) ∧
  (frB d = false → Er C u H E) ∧ (frB d = true → frB e = false → Er C v H E) ∧ (frB d = true → frB e = true → ¬ ok (frQ e) → Er C v H E) ∧
  (frB d = true → frB e = true → ok (frQ e) → ∀ z H', Ex H H' → R (frQ d) (frQ e) z H' → Q z H')
end
section
variable {P : Program} {w : World} {K : PySem.W.Frag} {mg : Str → Option Value} {base : Heap}
end
section
variable {P : Program} {w : World} {K : PySem.W.Frag} {mg : Str → Option Value} {base : Heap}
theorem ok_i_MixError (T : Txt K mg) : FnOk P w K mg base CX0 1 T.M.f T.M.fd ["self", "value"] (spInitM K) := by
  refine T.M.F.ok sc_i_MixError (fun vs H Q E h => ?_) (fun cdv A outer s H vs Q E hr h => ?_)
  · obtain ⟨C, a, v, nm, rfl, _⟩ := h
    rfl
  · obtain ⟨C, a, v, nm, rfl, ox, nv, nk, NM, ha, k⟩ := h
    refine ⟨_, pss_cons (ps_expr (pe_veinit (by rfl) T.n_ValueError T.v_VE (pa_cons (pv 0) (pa_cons pe_str pa_nil)))) (pss_cons (ps_ost (pv 0) (pv 1)) (pss_one (ps_ost (pv 0) (pe_nm (pv 0))))), ?_⟩
    refine ⟨_, rfl, a, C, _, rfl, by show 1 ≤ 1000; decide, ox, ha, ?_⟩
    refine ⟨v, rfl, .ref a, rfl, a, C, rfl, ox, nv, .inl ⟨ha, fun dx hdx ne => ?_⟩⟩
    have ed : (upd (upd H dx (exd dx [(("value" : Str), v)])) a (exo a C (some dx))) dx = some (exd dx [(("value" : Str), v)]) := by rw [upd_ne ne]; exact upd_same
    refine ⟨.ref a, rfl, a, C, dx, _, nm, rfl, NM, upd_same, ed, .ref a, rfl, a, C, rfl, ox, nk, .inr ⟨dx, _, upd_same, ed, by show 1 ≤ 900; decide, ?_⟩⟩
    refine k dx nm _ hdx ne (by rw [upd_ne ne.symm]; exact upd_same) upd_same fun b o hb h => ?_
    rw [upd_ne (ne_of_none h hdx), upd_ne hb, upd_ne (ne_of_none h hdx)]
    exact h
theorem ok_i_BadGroup (T : Txt K mg) : FnOk P w K mg base CX0 2 T.E_BadGroup.f T.E_BadGroup.fd ["self", "value"] (spInit T.E_BadGroup.C) := by
  refine T.E_BadGroup.F.ok sc_i_BadGroup (fun vs H Q E h => ?_) (fun cdv A outer s H vs Q E hr h => ?_)
  · obtain ⟨a, v, rfl, _⟩ := h
    rfl
  · obtain ⟨a, v, rfl, ha, k⟩ := h
    refine ⟨_, pss_one (ps_expr (pe_clsdef (by rfl) T.M.g T.M.rd T.M.ga T.M.fi T.M.kp (ok_i_MixError T) (hr.mono (by decide)) T.M.b pass0 (pa_cons (pv 0) (pa_cons (pv 1) pa_nil)))), ?_⟩
    exact ⟨_, rfl, _, rfl, T.E_BadGroup.C, a, v, _, rfl, T.E_BadGroup.x.oex, T.E_BadGroup.x.noV, T.E_BadGroup.x.noK, T.E_BadGroup.x.nm, ha, k⟩
theorem ok_i_BadGroupOrder (T : Txt K mg) : FnOk P w K mg base CX0 2 T.E_BadGroupOrder.f T.E_BadGroupOrder.fd ["self", "value"] (spInit T.E_BadGroupOrder.C) := by
  refine T.E_BadGroupOrder.F.ok sc_i_BadGroupOrder (fun vs H Q E h => ?_) (fun cdv A outer s H vs Q E hr h => ?_)
  · obtain ⟨a, v, rfl, _⟩ := h
    rfl
  · obtain ⟨a, v, rfl, ha, k⟩ := h
    refine ⟨_, pss_one (ps_expr (pe_clsdef (by rfl) T.M.g T.M.rd T.M.ga T.M.fi T.M.kp (ok_i_MixError T) (hr.mono (by decide)) T.M.b pass0 (pa_cons (pv 0) (pa_cons (pv 1) pa_nil)))), ?_⟩
    exact ⟨_, rfl, _, rfl, T.E_BadGroupOrder.C, a, v, _, rfl, T.E_BadGroupOrder.x.oex, T.E_BadGroupOrder.x.noV, T.E_BadGroupOrder.x.noK, T.E_BadGroupOrder.x.nm, ha, k⟩
end
section
variable {P : Program} {w : World} {K : PySem.W.Frag} {mg : Str → Option Value} {base : Heap}
theorem ok_is_whole (T : Txt K mg) : FnOk P w K mg base CX0 1 T.d_is_whole.a T.d_is_whole.fd ["value"] (spIsD K Any isWh) := by
  refine T.d_is_whole.F.ok sc_is_whole (fun vs H Q E h => ?_) (fun cdv A outer s H vs Q E hr h => ?_)
  · obtain ⟨p, v, d, rfl, _⟩ := h
    rfl
  · obtain ⟨p, v, d, rfl, hd, _, k⟩ := h
    refine ⟨_, (pss_one (ps_ret (pe_and (pe_callB call_isi (by rfl) T.n_isinstance (by decide +kernel) (pa_cons (pv 0) (pa_cons (pe_bltn (v := .ty "int") (by rfl) T.n_int (by decide +kernel) rfl) pa_nil))) (pe_one (pe_not (pe_callB call_isi (by rfl) T.n_isinstance (by decide +kernel) (pa_cons (pv 0) (pa_cons (pe_bltn (v := .ty "bool") (by rfl) T.n_bool (by decide +kernel) rfl) pa_nil)))))))), ?_⟩
    refine s_ret (ev_andV (ev_isi rfl hd (kit_int d)) fun _ => ev_notV (ev_isi rfl hd (kit_bool d))) fun H1 e => ?_
    rw [wh_eq]
    exact k H1 e
theorem ok_is_fraction (T : Txt K mg) : FnOk P w K mg base CX0 2 T.d_is_fraction.a T.d_is_fraction.fd ["value"] (spIsD K Any frB) := by
  refine T.d_is_fraction.F.ok sc_is_fraction (fun vs H Q E h => ?_) (fun cdv A outer s H vs Q E hr h => ?_)
  · obtain ⟨p, v, d, rfl, _⟩ := h
    rfl
  · obtain ⟨p, v, d, rfl, hd, _, k⟩ := h
    refine ⟨_, (pss_cons (ps_if (PW.pt (pw_or (pt_not (pt_val (pe_callB call_isi (by rfl) T.n_isinstance (by decide +kernel) (pa_cons (pv 0) (pa_cons (pe_bltn (v := .ty "tuple") (by rfl) T.n_tuple (by decide +kernel) rfl) pa_nil))))) (pw_or1 (pt_cmpR op_ne (pe_callB call_len_seq (by rfl) T.n_len (by decide +kernel) (pa_cons (pv 0) pa_nil)) pe_int (nomark _))))) (pss_one (ps_ret pe_bl)) pss_nil)
      (pss_cons (ps_asg (pv 0) (pg_tup (by rfl) (pgs_cons (pg_name (i := 1) sc_is_fraction.nd rfl (Or.inl rfl)) (pgs_cons (pg_name (i := 2) sc_is_fraction.nd rfl (Or.inl rfl)) pgs_nil))))
      (pss_cons (ps_if (PW.pt (pw_or (pt_not (pt_val (pe_call (ok_is_whole T) (hr.mono (by decide)) (by rfl) T.d_is_whole.g T.d_is_whole.F.kp T.d_is_whole.b .nil pass0 (pa_cons (pv 1) pa_nil)))) (pw_or (pt_not (pt_val (pe_call (ok_is_whole T) (hr.mono (by decide)) (by rfl) T.d_is_whole.g T.d_is_whole.F.kp T.d_is_whole.b .nil pass0 (pa_cons (pv 2) pa_nil)))) (pw_or1 (pt_cmpR op_le (pv 2) pe_int (nomark _)))))) (pss_one (ps_ret pe_bl)) pss_nil)
      (pss_one (ps_ret (pe_cmpR op_eq (pe_callBfun cr_gcd (by rfl) T.n_gcd (pa_cons (pv 1) (pa_cons (pv 2) pa_nil))) pe_int (nomark _))))))), ?_⟩
    by_cases ht : isTup d = true
    · cases hd with
      | @tup a xs ds hS hA =>
        by_cases h2 : xs.length = 2
        · have h2' := h2
          rw [hA.len] at h2'
          obtain ⟨x1, x2, rfl⟩ : ∃ x1 x2, xs = [x1, x2] := match xs, h2 with | [x1, x2], _ => ⟨x1, x2, rfl⟩
          obtain ⟨d1, d2, rfl⟩ : ∃ d1 d2, ds = [d1, d2] := match ds, h2' with | [d1, d2], _ => ⟨d1, d2, rfl⟩
          have hD : Dq K p H (.ref a) (.tuple [d1, d2]) := .tup hS hA
          obtain ⟨q1, q2⟩ : Dq K p H x1 d1 ∧ Dq K p H x2 d2 := by
            cases hA with
            | cons a b =>
              cases b with
              | cons b c => exact ⟨a, b⟩
          refine s_if (b := false) (et_is (et_or (et_not (et_B (ev_isi rfl hD (kit_tup _)))) fun _ => et_test (fun H1 e Q k => ⟨_, rfl, a, _, rfl, .inr (ex_t e hS), rfl, k H1 (Ex.refl H1)⟩)) rfl) (fun z => nomatch z) fun _ H1 e1 => ?_
          refine ⟨_, rfl, a, [x1, x2], rfl, ex_t e1 hS, rfl, _, _, rfl, _, _, rfl, rfl, ?_⟩
          have r1 := Dq.ex e1 _ _ q1
          have r2 := Dq.ex e1 _ _ q2
          have hlt : isWh d2 = true → x2 = .int (ival d2) := fun z => (r2.ival z).1
          refine s_if (b := !isWh d1 || (!isWh d2 || decide (ival d2 ≤ 0))) (et_or (et_not (et_B (ev_isD (ev_var rfl) r1 trivial))) fun _ => et_or (et_not (et_B (ev_isD (ev_var rfl) r2 trivial))) fun z => et_test (by
            have z' : isWh d2 = true := by simpa using z
            have hx := hlt z'
            subst hx
            exact ev_op (ev_var rfl) ev_c rv_I0)) (fun z H2 e2 => ?_) (fun z H2 e2 => ?_)
          · have e : frB (.tuple [d1, d2]) = false := by
              cases d1 with
              | int n =>
                cases d2 with
                | int m =>
                  have z' : decide (m ≤ 0) = true := z
                  have : ¬ 0 < m := by
                    have := of_decide_eq_true z'
                    omega
                  simp [frB, this]
                | _ => rfl
              | _ => rfl
            rw [e] at k
            exact k H2 (e1.trans e2)
          · have w1 : isWh d1 = true := by
              cases h : isWh d1 with
              | true => rfl
              | false =>
                rw [h] at z
                cases z
            have w2 : isWh d2 = true := by
              cases h : isWh d2 with
              | true => rfl
              | false =>
                rw [h, w1] at z
                cases z
            obtain ⟨g1, g2⟩ := r1.ival w1
            obtain ⟨g3, g4⟩ := r2.ival w2
            rw [w1, w2] at z
            have z' : ¬ ival d2 ≤ 0 := of_decide_eq_false (by simpa using z)
            generalize ival d1 = n at g1 g2
            generalize ival d2 = m at g3 g4 z'
            subst g1 g2 g3 g4
            refine ⟨_, rfl, _, rfl, n, m, rfl, rfl, ?_⟩
            have e : frB (.tuple [.int n, .int m]) = decide (V.int ((Nat.gcd n.natAbs m.natAbs : Nat) : Int) = V.int 1) := by
              simp only [frB]
              rw [decide_eq_true (by omega : 0 < m), Bool.true_and]
              rw [Bool.eq_iff_iff, decide_eq_true_iff, decide_eq_true_iff]
              constructor
              · intro h
                rw [h]
                rfl
              · intro h
                have := V.int.inj h
                omega
            rw [e] at k
            exact k H2 (e1.trans e2)
        · refine s_if (b := true) (et_is (et_or (et_not (et_B (ev_isi rfl (.tup hS hA) (kit_tup _)))) fun _ => et_test (fun H1 e Q k => ⟨_, rfl, a, _, rfl, .inr (ex_t e hS), rfl, k H1 (Ex.refl H1)⟩)) ?_) (fun _ H1 e1 => ?_) (fun z => nomatch z)
          · have : ¬ V.int (xs.length : Int) = V.int 2 := fun z => h2 (by
              have := V.int.inj z
              omega)
            simp [isTup, this]
          · have e : frB (.tuple ds) = false := by
              have := hA.len
              match ds, this with
              | [], _ => rfl
              | [_], _ => simp [frB]
              | [_, _], h => exact absurd h h2
              | _ :: _ :: _ :: _, _ => simp [frB]
            rw [e] at k
            exact k H1 e1
      | _ => cases ht
    · have e : frB d = false := by
        cases d <;> (first | rfl | exact absurd rfl ht)
      have ht' : isTup d = false := by simpa using ht
      refine s_if (b := true) (et_is (et_or (b := false) (et_not (et_B (ev_isi rfl hd (kit_tup d)))) fun z => ?_) ?_) (fun _ H1 e1 => ?_) (fun z => nomatch z)
      · rw [ht'] at z
        cases z
      · rw [ht']
        rfl
      · rw [e] at k
        exact k H1 e1
end
def posB (d : PyData) : Bool := frB d && decide (0 < (frQ d).num)
section
variable {K : PySem.W.Frag} {p : Addr} {H : Hp} {v : V} {d : PyData} {σ : L2.St} {i : Nat}
theorem Dq.seq {ds : List PyData} (h : Dq K p H v (.tuple ds)) : ∃ a xs, v = .ref a ∧ SqT K H a xs ∧ DqAll K p H xs ds := by
  cases h with
  | tup hS hA => exact ⟨_, _, rfl, hS, hA⟩
theorem ev_lenT {ds : List PyData} (hv : σ[i]? = some (some v)) (hd : Dq K p H v (.tuple ds)) : Ev (tCB (fun xs H_1 Q => ∃ p ys, xs = [V.ref p] ∧ (SqL K H_1 p ys ∨ SqT K H_1 p ys) ∧ Q (V.int ys.length) H_1) (tCons (tVar i) tNil)) σ H (.int (ds.length : Int)) := fun H1 e Q k => by
  obtain ⟨a, xs, rfl, hS, hA⟩ := hd.seq
  refine ⟨_, hv, a, xs, rfl, .inr (ex_t e hS), ?_⟩
  rw [hA.len]
  exact k H1 (Ex.refl H1)
theorem DqAll.get : ∀ {vs : List V} {ds : List PyData} {j : Nat} {dj : PyData}, DqAll K p H vs ds → ds[j]? = some dj → ∃ x, vs[j]? = some x ∧ Dq K p H x dj
  | _, _, j, dj, .nil, e => by simp at e
  | _, _, 0, dj, .cons h hs, e => by
    simp only [List.getElem?_cons_zero, Option.some.injEq] at e
    subst e
    exact ⟨_, rfl, h⟩
  | _, _, j + 1, dj, .cons h hs, e => by
    simp only [List.getElem?_cons_succ] at e ⊢
    exact DqAll.get hs e
/-- an item of a tuple -/
theorem ed_ix {ds : List PyData} {j : Nat} {dj : PyData} (hv : σ[i]? = some (some v)) (hd : Dq K p H v (.tuple ds)) (e : ds[j]? = some dj) : EvP (tOp (rIxT K) (tVar i) (tC (.int (j : Int)))) σ H (fun x H' => Dq K p H' x dj) := fun H1 e1 Q k => by
  obtain ⟨a, xs, rfl, hS, hA⟩ := hd.seq
  obtain ⟨x, hx, q⟩ := hA.get e
  exact ⟨_, hv, a, xs, j, x, rfl, rfl, ex_t e1 hS, atI_nat hx, k x H1 (Ex.refl _) (Dq.ex e1 _ _ q)⟩
theorem ev_isDp {E : XK} {sm : PyData → Prop} {f : PyData → Bool} {te : TE} (he : EvP te σ H fun x H' => Dq K p H' x d) (hs : sm d) : Ev (tCall (spIsD K sm f) [] E (tCons te tNil)) σ H (.bl (f d)) :=
  fun H1 e Q k => he H1 e _ fun x H2 e2 q => ⟨p, x, d, rfl, q, hs, fun H' e' => k H' (e2.trans e')⟩
end
section
variable {K : PySem.W.Frag} {p : Addr} {H : Hp} {v : V} {d : PyData} {σ : L2.St} {i : Nat} {te ta tb tc : TE} {x y w : V} {r r' : R2}
theorem ev_chain {a b : Bool} (ha : Ev ta σ H x) (hb : Ev tb σ H y) (hc : Ev tc σ H w) (h1 : ∀ H, RV r x y H (.bl a)) (h2 : ∀ H, RV r' y w H (.bl b)) : Ev (tChain r r' ta tb tc) σ H (.bl (a && b)) := fun H1 e Q k =>
  ha H1 e _ fun H2 e2 => hb H2 (e.trans e2) _ fun H3 e3 => h1 H3 H3 (Ex.refl _) _ fun H4 e4 => ⟨a, rfl, by
    cases a with
    | true =>
      rw [if_pos rfl]
      exact hc H4 (((e.trans e2).trans e3).trans e4) _ fun H5 e5 => h2 H5 H5 (Ex.refl _) _ fun H6 e6 => k H6 ((((e2.trans e3).trans e4).trans e5).trans e6)
    | false =>
      rw [if_neg (by decide)]
      exact k H4 ((e2.trans e3).trans e4)⟩
mutual
theorem Dq.dp : ∀ (d : PyData) (v : V), d.hasDict = false → Dq K p H v d → Dp K H v d
  | _, _, _, .non => .non
  | _, _, _, .bl b => .bl b
  | _, _, _, .int i => .int i
  | _, _, _, .str x => .str x
  | _, _, h0, .lst n m h hs => .lst (SqL.of h) (DqAll.dp _ _ (by simpa [PyData.hasDict] using h0) hs)
  | _, _, h0, .tup h hs => .tup h (DqAll.dp _ _ (by simpa [PyData.hasDict] using h0) hs)
  | _, _, h0, .emp h => by simp [PyData.hasDict] at h0
theorem DqAll.dp : ∀ (ds : List PyData) (vs : List V), PyData.hasDictAll ds = false → DqAll K p H vs ds → DpAll K H vs ds
  | _, _, _, .nil => .nil
  | _, _, h0, .cons h hs => by
    simp only [PyData.hasDictAll, Bool.or_eq_false_iff] at h0
    exact .cons (Dq.dp _ _ h0.1 h) (DqAll.dp _ _ h0.2 hs)
end
end
/-! ### tests that come out false -/
section
variable {K : PySem.W.Frag} {σ : L2.St} {H : Hp} {D : Ends} {t : TT} {tu tw : TS}
theorem yes_of {Q : Bool → Hp → Prop} (h : Q true H) : tYes σ H Q := h
theorem s_skip (h : EvT t σ H false) (k : ∀ H1, Ex H H1 → D.nx σ H1) : tIfS t tu tNext D σ H := s_if h (fun z => nomatch z) fun _ H1 e => k H1 e
theorem dec_ne {x y : Int} (h : x = y) : (!decide (V.int x = V.int y)) = false := by subst h; simp
theorem dec_neQ {x y : Rat} (h : x = y) : (!decide (x = y)) = false := by subst h; simp
theorem or_ff {a b : Bool} (h : a = false) (h' : b = false) : (a || b) = false := by subst h h'; rfl
/-- the test «two fractions differ» of two that are the same -/
theorem et_neF {ta tb : TE} {b c : Nat} {q r : Rat} (ha : EvP ta σ H (Fr K b q)) (hb : EvP tb σ H (Fr K c r)) (h : q = r) : EvT (tTest (tOp (rNeD K) ta tb)) σ H false := et_is (et_test (ev_neD ha hb)) (dec_neQ h)
theorem et_orF {t u : TT} (h1 : EvT t σ H false) (h2 : EvT u σ H false) : EvT (tOr t u) σ H false := et_is (et_or h1 fun _ => h2) rfl
/-- a written pair -/
theorem ep_lit {x y : Int} {q : Rat} {b : Nat} (e1 : x = q.num) (e2 : y = (q.den : Int)) (bd : Bd b q) : EvP (tTup (tCons (tC (.int x)) (tCons (tC (.int y)) tNil))) σ H (Fr K b q) := ep_tup ev_c ev_c e1 e2 bd
theorem ep_01 : EvP (tTup (tCons (tC (.int 0)) (tCons (tC (.int 1)) tNil))) σ H (Fr K 1 0) := ep_lit rfl rfl ⟨by decide, by decide⟩
end
/-! ### data that is drawn -/
section
variable {K : PySem.W.Frag} {p : Addr} {σ : L2.St} {H H' : Hp} {te ta tb : TE} {v : V} {d : PyData} {ds : List PyData} {tt : TT}
def EvD (K : PySem.W.Frag) (p : Addr) (te : TE) (σ : L2.St) (H : Hp) (d : PyData) : Prop := EvP te σ H fun v H => Dq K p H v d
def EvDs (K : PySem.W.Frag) (p : Addr) (ta : TA) (σ : L2.St) (H : Hp) (ds : List PyData) : Prop := ∀ H1, Ex H H1 → ∀ Q : List V → Hp → Prop, (∀ vs H2, Ex H1 H2 → DqAll K p H2 vs ds → Q vs H2) → ta σ H1 Q
theorem ed_ev (h : Ev te σ H v) (hd : ∀ H, Dq K p H v d) : EvD K p te σ H d := fun H1 e Q k => h H1 e Q fun H2 e2 => k v H2 e2 (hd H2)
theorem ed_var {i : Nat} (h : σ[i]? = some (some v)) (hd : Dq K p H v d) : EvD K p (tVar i) σ H d := fun H1 e _ k => ⟨v, h, k v H1 (Ex.refl H1) (Dq.ex e _ _ hd)⟩
theorem ed_int {n : Int} : EvD K p (tC (.int n)) σ H (.int n) := ed_ev ev_c fun _ => .int n
theorem ed_neg {n : Int} : EvD K p (tUn (rU fun i => .int (-i)) (tC (.int n))) σ H (.int (-n)) := ed_ev (ev_neg ev_c) fun _ => .int _
theorem ed_bool {b : Bool} : EvD K p (tC (.bl b)) σ H (.bool b) := ed_ev ev_c fun _ => .bl b
theorem ed_none : EvD K p (tC .non) σ H .none := ed_ev ev_c fun _ => .non
theorem ed_str {x : Str} : EvD K p (tC (.str x)) σ H (.str x) := ed_ev ev_c fun _ => .str x
theorem ed_fr {b : Nat} {q : Rat} (h : EvP te σ H (Fr K b q)) : EvD K p te σ H (frd q) := fun H1 e Q k => h H1 e Q fun v H2 e2 f => k v H2 e2 f.dq
theorem eds_nil : EvDs K p tNil σ H [] := fun H1 e Q k => k [] H1 (Ex.refl H1) .nil
theorem eds_cons {tr : TA} (h : EvD K p te σ H d) (hs : EvDs K p tr σ H ds) : EvDs K p (tCons te tr) σ H (d :: ds) := fun H1 e Q k =>
  h H1 e _ fun v H2 e2 q => hs H2 (e.trans e2) _ fun vs H3 e3 qs => k _ H3 (e2.trans e3) (.cons (Dq.ex e3 _ _ q) qs)
theorem ed_tup {ta : TA} (h : EvDs K p ta σ H ds) (hl : ds.length ≤ 1000) : EvD K p (tTup ta) σ H (.tuple ds) := fun H1 e Q k =>
  h H1 e _ fun vs H2 e2 qs => ⟨Nat.le_of_lt (small1000 (by rw [qs.len]; exact hl)), fun a fa => k _ _ (e2.trans (Ex.new fa)) (.tup (SqT.of upd_same) (DqAll.ex (Ex.new fa) _ _ qs))⟩
theorem ed_lst {ta : TA} {o : HO} (hp : H p = some o) (h : EvDs K p ta σ H ds) (hl : ds.length ≤ 1000) : EvD K p (tLstN ta) σ H (.list ds) := fun H1 e Q k =>
  h H1 e _ fun vs H2 e2 qs => ⟨Nat.le_of_lt (small1000 (by rw [qs.len]; exact hl)), fun a fa fm => k _ _ (e2.trans (Ex.new fa)) (.lst (ne_of_none (e2 _ _ (e _ _ hp)) fa).symm fm upd_same (DqAll.ex (Ex.new fa) _ _ qs))⟩
end
def tI (n : Int) : TE := tC (.int n)
def tN (n : Int) : TE := tUn (rU fun i => .int (-i)) (tC (.int n))
def tP (a b : TE) : TE := tTup (tCons a (tCons b tNil))
section
variable {K : PySem.W.Frag} {p : Addr} {σ : L2.St} {H : Hp} {a b : TE} {d e : PyData} {v : V} {q r : Rat}
theorem ed_I {n : Int} : EvD K p (tI n) σ H (.int n) := ed_int
theorem ed_N {n : Int} : EvD K p (tN n) σ H (.int (-n)) := ed_neg
theorem ed_P (h : EvD K p a σ H d) (g : EvD K p b σ H e) : EvD K p (tP a b) σ H (.tuple [d, e]) := ed_tup (eds_cons h (eds_cons g eds_nil)) (by show 2 ≤ 1000; decide)
def LstD (K : PySem.W.Frag) (p : Addr) (ds : List PyData) (v : V) (H : Hp) : Prop := ∃ (l : Addr) (vs : List V), v = .ref l ∧ l ≠ p ∧ l ≠ sysModules ∧ H l = some (.lst vs) ∧ DqAll K p H vs ds
def LstD0 (K : PySem.W.Frag) (p : Addr) (ds : List PyData) (v : V) (H : Hp) : Prop := ∃ (l : Addr) (vs : List V), v = .ref l ∧ l ≠ p ∧ H l = some (.lst vs) ∧ DqAll K p H vs ds
theorem LstD.to0 {ds : List PyData} (h : LstD K p ds v H) : LstD0 K p ds v H := by
  obtain ⟨l, vs, rfl, n, m, h, q⟩ := h
  exact ⟨l, vs, rfl, n, h, q⟩
theorem el_lst {tm : TA} {ds : List PyData} {o : HO} (hh : H p = some o) (hm : EvDs K p tm σ H ds) (hl : ds.length ≤ 900) : EvP (tLstN tm) σ H (LstD K p ds) := fun H1 e Q k =>
  hm H1 e _ fun vs H2 e2 qs => ⟨Nat.le_of_lt (small1000 (by rw [qs.len]; omega)), fun l fl fm => k _ _ (e2.trans (Ex.new fl)) ⟨l, vs, rfl, (ne_of_none (e2 _ _ (e _ _ hh)) fl).symm, fm, upd_same, DqAll.ex (Ex.new fl) _ _ qs⟩⟩
end
/-! ### tables -/
section
variable {P : Program} {w : World} {K : PySem.W.Frag} {mg : Str → Option Value} {base : Heap}
/-- a def by its body, its code object known -/
theorem okC {x qual : Str} {st : Stmt} {f c : Addr} {fd : FuncData} {N ps : List Str} {k : Nat} {sp : Sp} (F : Fun K x qual st f fd) (hc : fd.code = .ref c) (S : FnScope N ps (defScope st)) (len : ∀ vs H Q E, sp vs H Q E → vs.length = ps.length)
    (body : ∀ (A : Around) (outer : List Env) (s : Shared) (H : Hp) (vs : List V) (Q : VK) (E : XK), Room k (A.deeper (envOfC qual (defScope st) s.heap.objs.size f (.ref c))) → sp vs H Q E →
      ∃ t, PSs (cxOf CX0 P w K mg base N qual (defScope st) f (.ref c) A outer s H E).nox (defBody st) t ∧ t { nx := fun _ H' => Q .non H', rt := Q } (start N vs) H) : FnOk P w K mg base CX0 (k + 1) f fd ps sp := by
  obtain ⟨oc, od, kV, doc, pm, an, cdv, ct, osl, rfl, lk, hcd⟩ := F.ex
  obtain rfl : cdv = .ref c := hc
  apply fn_of lk hcd S len
  intro A outer s H vs Q E hr hsp
  obtain ⟨t, h, q⟩ := body A outer s H vs Q E hr hsp
  exact ⟨t, h.nox, q⟩
end
theorem n_name {i : Nat} {v : V} {σ : L2.St} {H : Hp} {N : L2.St → Hp → Prop} (h : N (σ.set i (some v)) H) : gName i v σ H N := h
theorem n_next {D : Ends} {σ : L2.St} {H : Hp} (h : D.nx σ H) : tNext D σ H := h
theorem num_pos_iff (q : Rat) : 0 < q.num ↔ 0 < q := by
  have h1 : (0 : Int) ≤ q.num ↔ 0 ≤ q := Rat.num_nonneg
  have h2 : q.num = 0 ↔ q = 0 := Rat.num_eq_zero
  constructor
  · intro h
    have a := h1.mp (by omega)
    have b : q ≠ 0 := fun e => by have := h2.mpr e; omega
    grind
  · intro h
    have a := h1.mpr (by grind)
    have b : q.num ≠ 0 := fun e => by have := h2.mp e; grind
    omega
section
variable {P : Program} {w : World} {K : PySem.W.Frag} {mg : Str → Option Value} {base : Heap}
theorem ok_lowest (T : Txt K mg) : FnOk P w K mg base CX0 1 T.d_lowest.a T.d_lowest.fd ["top", "bottom"] (spLow K) := by
  refine T.d_lowest.F.ok sc_lowest (fun vs H Q E h => ?_) (fun cdv A outer s H vs Q E hr h => ?_)
  · obtain ⟨n, d, b, rfl, _⟩ := h
    rfl
  · obtain ⟨n, d, b, rfl, hd, hn, hb, hl, k⟩ := h
    refine ⟨_, (pss_cons (ps_set (i := 2) sc_lowest.nd rfl (Or.inl rfl) (pe_callBfun cr_gcd (by rfl) T.n_gcd (pa_cons (pv 0) (pa_cons (pv 1) pa_nil))))
      (pss_cons (ps_if (pt_cmpR op_lt (pv 1) pe_int (nomark _)) (pss_one (ps_set (i := 2) sc_lowest.nd rfl (Or.inl rfl) (pe_un un_neg (pv 2)))) pss_nil)
      (pss_one (ps_ret (pe_tup (pa_cons (pe_op op_fdivZ (pv 0) (pv 2)) (pa_cons (pe_op op_fdivZ (pv 1) (pv 2)) pa_nil))))))), ?_⟩
    have e := lowest_eq n d hd
    have hG : Nat.gcd n.natAbs d.natAbs ≤ d.natAbs := Nat.gcd_le_right _ (by omega)
    have hp := gcd_pos (n := n) hd
    refine ⟨_, rfl, _, rfl, n, d, rfl, ?_⟩
    refine ⟨_, rfl, d, 0, rfl, rfl, _, rfl, ite2 (fun c => ?_) (fun c => ?_)⟩
    · have c' : d < 0 := of_decide_eq_true c
      rw [if_pos c'] at e
      refine ⟨_, rfl, _, rfl, ?_⟩
      have hz : ∀ i : Int, CDivZ i (-((Nat.gcd n.natAbs d.natAbs : Nat) : Int)) := fun _ => ⟨by omega, by
        have : (-((Nat.gcd n.natAbs d.natAbs : Nat) : Int)).natAbs = Nat.gcd n.natAbs d.natAbs := by omega
        rw [this]
        exact log_lt (Nat.lt_of_le_of_lt hG hb) (by omega : b ≤ 9000) (by decide)⟩
      exact s_retP (ep_tup (b := b) (ev_fdivZ (ev_var rfl) (ev_var rfl) (hz _)) (ev_fdivZ (ev_var rfl) (ev_var rfl) (hz _)) e.1 e.2 (bd_divInt hd hn hb)) fun z H1 e w => k z H1 e w
    · have c' : ¬ d < 0 := fun z => c (decide_eq_true z)
      rw [if_neg c'] at e
      have hz : ∀ i : Int, CDivZ i ((Nat.gcd n.natAbs d.natAbs : Nat) : Int) := fun _ => ⟨by omega, by
        have : ((Nat.gcd n.natAbs d.natAbs : Nat) : Int).natAbs = Nat.gcd n.natAbs d.natAbs := by omega
        rw [this]
        exact log_lt (Nat.lt_of_le_of_lt hG hb) (by omega : b ≤ 9000) (by decide)⟩
      exact s_retP (ep_tup (b := b) (ev_fdivZ (ev_var rfl) (ev_var rfl) (hz _)) (ev_fdivZ (ev_var rfl) (ev_var rfl) (hz _)) e.1 e.2 (bd_divInt hd hn hb)) fun z H1 e w => k z H1 e w
theorem ok_add (T : Txt K mg) : FnOk P w K mg base CX0 2 T.d_add.a T.d_add.fd ["one", "other"] (sp2 K (fun _ => True) fun q r => q + r) := by
  refine T.d_add.F.ok sc_add (fun vs H Q E h => ?_) (fun cdv A outer s H vs Q E hr h => ?_)
  · obtain ⟨u, v, b, c, q, r, rfl, _⟩ := h
    rfl
  · obtain ⟨u, v, b, c, q, r, rfl, f, g, hl, _, k⟩ := h
    refine ⟨_, (pss_one (ps_ret (pe_call (ok_lowest T) (hr.mono (by decide)) (by rfl) T.d_lowest.g T.d_lowest.F.kp T.d_lowest.b .nil pass0 (pa_cons (pe_op op_add (pe_op op_mulW (pe_ix ix_tup (pv 0) pe_int (fun _ _ => rfl)) (pe_ix ix_tup (pv 1) pe_int (fun _ _ => rfl))) (pe_op op_mulW (pe_ix ix_tup (pv 1) pe_int (fun _ _ => rfl)) (pe_ix ix_tup (pv 0) pe_int (fun _ _ => rfl)))) (pa_cons (pe_op op_mulW (pe_ix ix_tup (pv 0) pe_int (fun _ _ => rfl)) (pe_ix ix_tup (pv 1) pe_int (fun _ _ => rfl))) pa_nil))))), ?_⟩
    have F := @ep_var K (start n_add [u, v]) H u b q 0 rfl f
    have G := @ep_var K (start n_add [u, v]) H v c r 1 rfl g
    have x := f.bd
    have y := g.bd
    exact s_retP (ep_Low (b := b + c + 1) (ev_add (ev_mulW (ev_0 F) (ev_1 G) (mulW x.1 (bd_den y) (by omega))) (ev_mulW (ev_0 G) (ev_1 F) (mulW y.1 (bd_den x) (by omega)))) (ev_mulW (ev_1 F) (ev_1 G) (mulW (bd_den x) (bd_den y) (by omega)))
      (Int.mul_ne_zero (den_ne q) (den_ne r)) (bn_add (bn_mul x.1 (bd_den y)) (by rw [Nat.add_comm b c]; exact bn_mul y.1 (bd_den x))) (lt_pow_mono (Nat.le_succ _) (bn_mul (bd_den x) (bd_den y))) hl (add_eq q r)) fun z H1 e w => k z H1 e w
theorem ok_multiply (T : Txt K mg) : FnOk P w K mg base CX0 2 T.d_multiply.a T.d_multiply.fd ["one", "other"] (sp2 K (fun _ => True) fun q r => q * r) := by
  refine T.d_multiply.F.ok sc_multiply (fun vs H Q E h => ?_) (fun cdv A outer s H vs Q E hr h => ?_)
  · obtain ⟨u, v, b, c, q, r, rfl, _⟩ := h
    rfl
  · obtain ⟨u, v, b, c, q, r, rfl, f, g, hl, _, k⟩ := h
    refine ⟨_, (pss_one (ps_ret (pe_call (ok_lowest T) (hr.mono (by decide)) (by rfl) T.d_lowest.g T.d_lowest.F.kp T.d_lowest.b .nil pass0 (pa_cons (pe_op op_mulW (pe_ix ix_tup (pv 0) pe_int (fun _ _ => rfl)) (pe_ix ix_tup (pv 1) pe_int (fun _ _ => rfl))) (pa_cons (pe_op op_mulW (pe_ix ix_tup (pv 0) pe_int (fun _ _ => rfl)) (pe_ix ix_tup (pv 1) pe_int (fun _ _ => rfl))) pa_nil))))), ?_⟩
    have F := @ep_var K (start n_multiply [u, v]) H u b q 0 rfl f
    have G := @ep_var K (start n_multiply [u, v]) H v c r 1 rfl g
    have x := f.bd
    have y := g.bd
    exact s_retP (ep_Low (b := b + c + 1) (ev_mulW (ev_0 F) (ev_0 G) (mulW x.1 y.1 (by omega))) (ev_mulW (ev_1 F) (ev_1 G) (mulW (bd_den x) (bd_den y) (by omega)))
      (Int.mul_ne_zero (den_ne q) (den_ne r)) (lt_pow_mono (Nat.le_succ _) (bn_mul x.1 y.1)) (lt_pow_mono (Nat.le_succ _) (bn_mul (bd_den x) (bd_den y))) hl (mul_eq q r)) fun z H1 e w => k z H1 e w
theorem ok_subtract (T : Txt K mg) : FnOk P w K mg base CX0 2 T.d_subtract.a T.d_subtract.fd ["one", "other"] (sp2 K (fun _ => True) fun q r => q - r) := by
  refine T.d_subtract.F.ok sc_subtract (fun vs H Q E h => ?_) (fun cdv A outer s H vs Q E hr h => ?_)
  · obtain ⟨u, v, b, c, q, r, rfl, _⟩ := h
    rfl
  · obtain ⟨u, v, b, c, q, r, rfl, f, g, hl, _, k⟩ := h
    refine ⟨_, (pss_one (ps_ret (pe_call (ok_lowest T) (hr.mono (by decide)) (by rfl) T.d_lowest.g T.d_lowest.F.kp T.d_lowest.b .nil pass0 (pa_cons (pe_op op_sub (pe_op op_mulW (pe_ix ix_tup (pv 0) pe_int (fun _ _ => rfl)) (pe_ix ix_tup (pv 1) pe_int (fun _ _ => rfl))) (pe_op op_mulW (pe_ix ix_tup (pv 1) pe_int (fun _ _ => rfl)) (pe_ix ix_tup (pv 0) pe_int (fun _ _ => rfl)))) (pa_cons (pe_op op_mulW (pe_ix ix_tup (pv 0) pe_int (fun _ _ => rfl)) (pe_ix ix_tup (pv 1) pe_int (fun _ _ => rfl))) pa_nil))))), ?_⟩
    have F := @ep_var K (start n_subtract [u, v]) H u b q 0 rfl f
    have G := @ep_var K (start n_subtract [u, v]) H v c r 1 rfl g
    have x := f.bd
    have y := g.bd
    exact s_retP (ep_Low (b := b + c + 1) (ev_sub (ev_mulW (ev_0 F) (ev_1 G) (mulW x.1 (bd_den y) (by omega))) (ev_mulW (ev_0 G) (ev_1 F) (mulW y.1 (bd_den x) (by omega)))) (ev_mulW (ev_1 F) (ev_1 G) (mulW (bd_den x) (bd_den y) (by omega)))
      (Int.mul_ne_zero (den_ne q) (den_ne r)) (bn_sub (bn_mul x.1 (bd_den y)) (by rw [Nat.add_comm b c]; exact bn_mul y.1 (bd_den x))) (lt_pow_mono (Nat.le_succ _) (bn_mul (bd_den x) (bd_den y))) hl (sub_eq q r)) fun z H1 e w => k z H1 e w
def spNeg (K : PySem.W.Frag) : Sp := fun vs H Q _ => ∃ (u : V) (b : Nat) (q : Rat), vs = [u] ∧ Fr K b q u H ∧ ∀ z H', Ex H H' → Fr K b (-q) z H' → Q z H'
theorem ok_negative (T : Txt K mg) : FnOk P w K mg base CX0 1 T.d_negative.a T.d_negative.fd ["amount"] (spNeg K) := by
  refine T.d_negative.F.ok sc_negative (fun vs H Q E h => ?_) (fun cdv A outer s H vs Q E hr h => ?_)
  · obtain ⟨u, b, q, rfl, _⟩ := h
    rfl
  · obtain ⟨u, b, q, rfl, f, k⟩ := h
    refine ⟨_, (pss_one (ps_ret (pe_tup (pa_cons (pe_un un_neg (pe_ix ix_tup (pv 0) pe_int (fun _ _ => rfl))) (pa_cons (pe_ix ix_tup (pv 0) pe_int (fun _ _ => rfl)) pa_nil))))), ?_⟩
    have F := @ep_var K (start n_negative [u]) H u b q 0 rfl f
    have x := f.bd
    exact s_retP (ep_tup (b := b) (ev_neg (ev_0 F)) (ev_1 F) (Rat.neg_num q).symm (by rw [Rat.neg_den]) ⟨by rw [Rat.neg_num, Int.natAbs_neg]; exact x.1, by rw [Rat.neg_den]; exact x.2⟩) fun z H1 e w => k z H1 e w
/-- above 0 and below 1 -/
def prpB (d : PyData) : Bool := frB d && (decide (0 < (frQ d).num) && decide ((frQ d).num < ((frQ d).den : Int)))
def spLt (K : PySem.W.Frag) : Sp := fun vs H Q _ => ∃ (u v : V) (b c : Nat) (q r : Rat), vs = [u, v] ∧ Fr K b q u H ∧ Fr K c r v H ∧ b + c ≤ 8000 ∧ ∀ H', Ex H H' → Q (.bl (decide (q < r))) H'
theorem lt_num (q r : Rat) : decide (q.num * (r.den : Int) < r.num * (q.den : Int)) = decide (q < r) := by
  rw [Bool.eq_iff_iff, decide_eq_true_iff, decide_eq_true_iff]
  exact (Rat.lt_iff q r).symm
theorem ok_is_proper (T : Txt K mg) : FnOk P w K mg base CX0 3 T.d_is_proper.a T.d_is_proper.fd ["value"] (spIsD K Any prpB) := by
  refine T.d_is_proper.F.ok sc_is_proper (fun vs H Q E h => ?_) (fun cdv A outer s H vs Q E hr h => ?_)
  · obtain ⟨p, v, d, rfl, _⟩ := h
    rfl
  · obtain ⟨p, v, d, rfl, hd, _, k⟩ := h
    refine ⟨_, (pss_one (ps_ret (pe_and (pe_call (ok_is_fraction T) (hr.mono (by decide)) (by rfl) T.d_is_fraction.g T.d_is_fraction.F.kp T.d_is_fraction.b .nil pass0 (pa_cons (pv 0) pa_nil)) (pe_one (pe_chain op_lt op_lt pe_int (pe_ix ix_tup (pv 0) pe_int (fun _ _ => rfl)) (pe_ix ix_tup (pv 0) pe_int (fun _ _ => rfl))))))), ?_⟩
    refine s_ret (ev_andV (b := decide (0 < (frQ d).num) && decide ((frQ d).num < ((frQ d).den : Int))) (ev_isD (ev_var rfl) hd trivial) fun hb => ?_) fun H1 e => k H1 e
    have hq := frB_iff hb
    have hd' : Dq K p H v (.tuple [.int (frQ d).num, .int ((frQ d).den : Int)]) := by
      rw [hq] at hd
      exact hd
    have i0 : Ev (tOp (rIxT K) (tVar 0) (tC (.int 0))) [some v] H (.int (frQ d).num) := fun H1 e1 Q kk => ed_ix (K := K) (p := p) (j := 0) rfl hd' rfl H1 e1 _ fun x H2 e2 q => by
      cases q with
      | int n => exact kk H2 e2
    have i1 : Ev (tOp (rIxT K) (tVar 0) (tC (.int 1))) [some v] H (.int ((frQ d).den : Int)) := fun H1 e1 Q kk => ed_ix (K := K) (p := p) (j := 1) rfl hd' rfl H1 e1 _ fun x H2 e2 q => by
      cases q with
      | int n => exact kk H2 e2
    exact ev_chain ev_c i0 i1 (fun H => rv_I0) fun H => rv_I0
def posZ (d : PyData) : Bool := frB d && decide (0 ≤ (frQ d).num)
theorem ok_is_from_zero (T : Txt K mg) : FnOk P w K mg base CX0 3 T.d_is_from_zero.a T.d_is_from_zero.fd ["value"] (spIsD K Any posZ) := by
  refine T.d_is_from_zero.F.ok sc_is_from_zero (fun vs H Q E h => ?_) (fun cdv A outer s H vs Q E hr h => ?_)
  · obtain ⟨p, v, d, rfl, _⟩ := h
    rfl
  · obtain ⟨p, v, d, rfl, hd, _, k⟩ := h
    refine ⟨_, (pss_one (ps_ret (pe_and (pe_call (ok_is_fraction T) (hr.mono (by decide)) (by rfl) T.d_is_fraction.g T.d_is_fraction.F.kp T.d_is_fraction.b .nil pass0 (pa_cons (pv 0) pa_nil)) (pe_one (pe_cmpR op_ge (pe_ix ix_tup (pv 0) pe_int (fun _ _ => rfl)) pe_int (nomark _)))))), ?_⟩
    refine s_ret (ev_andV (b := decide (0 ≤ (frQ d).num)) (ev_isD (ev_var rfl) hd trivial) fun hb => ?_) fun H1 e => k H1 e
    have hq := frB_iff hb
    have hd' : Dq K p H v (.tuple [.int (frQ d).num, .int ((frQ d).den : Int)]) := by
      rw [hq] at hd
      exact hd
    intro H1 e1 Q kk
    refine ed_ix (K := K) (p := p) (j := 0) rfl hd' rfl H1 e1 _ fun x H2 e2 q => ?_
    cases q with
    | int n => exact ⟨_, _, rfl, rfl, kk H2 e2⟩
end
/-! ### the law's own arithmetic -/
section
variable {K : PySem.W.Frag} {σ : L2.St} {H : Hp} {ta tb : TE} {b c n : Nat} {q r : Rat}
def spGcdL : Sp := fun vs H Q _ => ∃ n d : Int, vs = [.int n, .int d] ∧ ∀ H', H' = H → Q (.int ((Nat.gcd n.natAbs d.natAbs : Nat) : Int)) H'
def spLowL (K : PySem.W.Frag) : Sp := fun vs H Q _ => ∃ (n d : Int) (b : Nat), vs = [.int n, .int d] ∧ 0 < d ∧ n.natAbs < 2 ^ b ∧ d.natAbs < 2 ^ b ∧ b ≤ 1900 ∧ ∀ z H', Ex H H' → Fr K b (Rat.divInt n d) z H' → Q z H'
def sp2L (K : PySem.W.Frag) (ok : Rat → Prop) (f : Rat → Rat → Rat) : Sp := fun vs H Q _ => ∃ (u v : V) (b c : Nat) (q r : Rat), vs = [u, v] ∧ Fr K b q u H ∧ Fr K c r v H ∧ b + c + 1 ≤ 1900 ∧ ok r ∧
  ∀ z H', Ex H H' → Fr K (b + c + 1) (f q r) z H' → Q z H'
theorem ep_2L {ok : Rat → Prop} {f : Rat → Rat → Rat} {E : XK} (ha : EvP ta σ H (Fr K b q)) (hb : EvP tb σ H (Fr K c r)) (hk : ok r) (hl : b + c + 1 ≤ 1900) (hn : b + c + 1 = n) : EvP (tCall (sp2L K ok f) [] E (tCons ta (tCons tb tNil))) σ H (Fr K n (f q r)) := fun H1 a Q k =>
  ha H1 a _ fun x H2 a2 g => hb H2 (a.trans a2) _ fun y H3 a3 h => ⟨x, y, b, c, q, r, rfl, g.ex a3, h, hl, hk, fun z H' e w => k z H' ((a2.trans a3).trans e) (by subst hn; exact w)⟩
theorem ep_LowL {E : XK} {x y : Int} (ha : Ev ta σ H (.int x)) (hb : Ev tb σ H (.int y)) (hd : 0 < y) (hx : x.natAbs < 2 ^ b) (hy : y.natAbs < 2 ^ b) (hl : b ≤ 1900) (hq : Rat.divInt x y = q) : EvP (tCall (spLowL K) [] E (tCons ta (tCons tb tNil))) σ H (Fr K b q) := fun H1 a Q k =>
  ha H1 a _ fun H2 a2 => hb H2 (a.trans a2) _ fun H3 a3 => ⟨x, y, b, rfl, hd, hx, hy, hl, fun z H' e w => k z H' ((a2.trans a3).trans e) (by subst hq; exact w)⟩
theorem denI_pos (q : Rat) : (0 : Int) < q.den := by
  have := q.den_pos
  omega
end
theorem nat_abs_if (n : Int) : (if n < 0 then -n else n) = ((n.natAbs : Nat) : Int) := by
  by_cases h : n < 0
  · rw [if_pos h]; omega
  · rw [if_neg h]; omega
section
variable {P : Program} {w : World} {K : PySem.W.Frag} {mg : Str → Option Value} {base : Heap}
theorem ok__law_divisor (T : Txt K mg) : FnOk P w K mg base CX0 1 T.d__law_divisor.a T.d__law_divisor.fd ["_law_one_here", "_law_other"] spGcdL := by
  refine T.d__law_divisor.F.ok sc__law_divisor (fun vs H Q E h => ?_) (fun cdv A outer s H vs Q E hr h => ?_)
  · obtain ⟨n, d, rfl, _⟩ := h
    rfl
  · obtain ⟨n, d, rfl, k⟩ := h
    refine ⟨_, (pss_cons (ps_par (i := 0) (j := 1) (by rfl) sc__law_divisor.nd rfl rfl (by decide) rfl rfl (pa_cons (pe_callB call_abs (by rfl) T.n_abs (by decide +kernel) (pa_cons (pv 0) pa_nil)) (pa_cons (pe_callB call_abs (by rfl) T.n_abs (by decide +kernel) (pa_cons (pv 1) pa_nil)) pa_nil)) (by rfl))
      (pss_cons (ps_while PassesOwn.never (pt_cmpR op_gt (pv 1) pe_int (nomark _)) (pss_one (ps_par (i := 0) (j := 1) (by rfl) sc__law_divisor.nd rfl rfl (by decide) rfl rfl (pa_cons (pv 1) (pa_cons (pe_op op_mod (pe_callTy call_int1 (by rfl) T.n_int (by decide +kernel) (pa_cons (pv 0) pa_nil)) (pv 1)) pa_nil)) (by rfl))))
      (pss_one (ps_ret (pv 0))))), ?_⟩
    refine n_seq ?_
    refine ⟨_, rfl, n, rfl, _, rfl, d, rfl, _, _, rfl, ?_⟩
    rw [nat_abs_if, nat_abs_if]
    dsimp only
    refine n_seq ?_
    refine while_by (fun σ G => G = H ∧ ∃ a c : Nat, σ = [some (.int a), some (.int c)] ∧ Nat.gcd a c = Nat.gcd n.natAbs d.natAbs)
      (fun σ _ => match σ[1]? with
        | some (some (V.int m)) => m.toNat
        | _ => 0) ⟨rfl, n.natAbs, d.natAbs, rfl, rfl⟩ ?_ ?_
    · rintro σ G ⟨rfl, a, c, rfl, hg⟩
      refine ⟨_, rfl, _, _, rfl, rfl, _, rfl, ?_⟩
      refine ite2 (fun w => ?_) (fun w => ?_)
      · have hc : 0 < (c : Int) := of_decide_eq_true w
        refine ⟨_, rfl, _, rfl, .inl ⟨_, rfl, _, rfl, a, c, rfl, rfl, hc, _, _, rfl, ?_⟩⟩
        refine ⟨⟨rfl, c, a % c, ?_, gcd_step hg⟩, ?_⟩
        · rw [Int.natCast_emod]
          rfl
        · show ((a : Int) % (c : Int)).toNat < (c : Int).toNat
          have := Nat.mod_lt a (show c > 0 by omega)
          rw [← Int.natCast_emod]
          omega
      · have hc : c = 0 := by
          by_cases hc : c = 0
          · exact hc
          · exact absurd (decide_eq_true (show (0 : Int) < (c : Int) by omega)) w
        subst hc
        have ha : a = Nat.gcd n.natAbs d.natAbs := gcd_end hg
        subst ha
        exact ⟨_, rfl, k _ rfl⟩
    · rintro σ G Q Q' hq ⟨x, h1, i, j, h2, h3, b, h4, h5⟩
      exact ⟨x, h1, i, j, h2, h3, b, h4, hq _ _ h5⟩
theorem ok__law_frac (T : Txt K mg) : FnOk P w K mg base CX0 2 T.d__law_frac.a T.d__law_frac.fd ["_law_top", "_law_bottom"] (spLowL K) := by
  refine T.d__law_frac.F.ok sc__law_frac (fun vs H Q E h => ?_) (fun cdv A outer s H vs Q E hr h => ?_)
  · obtain ⟨n, d, b, rfl, _⟩ := h
    rfl
  · obtain ⟨n, d, b, rfl, hd, hn, hb, hl, k⟩ := h
    refine ⟨_, (pss_cons (ps_set (i := 2) sc__law_frac.nd rfl (Or.inl rfl) (pe_call (ok__law_divisor T) (hr.mono (by decide)) (by rfl) T.d__law_divisor.g T.d__law_divisor.F.kp T.d__law_divisor.b .nil pass0 (pa_cons (pv 0) (pa_cons (pv 1) pa_nil))))
      (pss_one (ps_ret (pe_tup (pa_cons (pe_op op_fdivZ (pv 0) (pv 2)) (pa_cons (pe_op op_fdivZ (pv 1) (pv 2)) pa_nil)))))), ?_⟩
    refine n_seq ?_
    refine ⟨_, rfl, _, rfl, n, d, rfl, fun _ e => ?_⟩
    subst e
    dsimp only
    have hd0 : d ≠ 0 := by omega
    have hG : Nat.gcd n.natAbs d.natAbs ≤ d.natAbs := Nat.gcd_le_right _ (by omega)
    have hp := gcd_pos (n := n) hd0
    have hz : ∀ i : Int, CDivZ i ((Nat.gcd n.natAbs d.natAbs : Nat) : Int) := fun _ => ⟨by omega, by
      have : ((Nat.gcd n.natAbs d.natAbs : Nat) : Int).natAbs = Nat.gcd n.natAbs d.natAbs := by omega
      rw [this]
      exact log_lt (Nat.lt_of_le_of_lt hG hb) (by omega : b ≤ 9000) (by decide)⟩
    have fd : ∀ i : Int, i.fdiv ((Nat.gcd n.natAbs d.natAbs : Nat) : Int) = i / ((Nat.gcd n.natAbs d.natAbs : Nat) : Int) := fun i => Int.fdiv_eq_ediv_of_nonneg i (by omega)
    have e := low_eq n d hd0 1 (by rw [if_neg (by omega)])
    rw [Int.one_mul, Int.one_mul] at e
    exact s_retP (ep_tup (b := b) (ev_fdivZ (ev_var rfl) (ev_var rfl) (hz _)) (ev_fdivZ (ev_var rfl) (ev_var rfl) (hz _)) (by rw [fd]; exact e.1) (by rw [fd]; exact e.2) (bd_divInt hd0 hn hb)) fun z H1 e w => k z H1 e w
theorem ok__law_add (T : Txt K mg) : FnOk P w K mg base CX0 3 T.d__law_add.a T.d__law_add.fd ["_law_one_here", "_law_other"] (sp2L K (fun _ => True) fun q r => q + r) := by
  refine T.d__law_add.F.ok sc__law_add (fun vs H Q E h => ?_) (fun cdv A outer s H vs Q E hr h => ?_)
  · obtain ⟨u, v, b, c, q, r, rfl, _⟩ := h
    rfl
  · obtain ⟨u, v, b, c, q, r, rfl, f, g, hl, _, k⟩ := h
    refine ⟨_, (pss_one (ps_ret (pe_call (ok__law_frac T) (hr.mono (by decide)) (by rfl) T.d__law_frac.g T.d__law_frac.F.kp T.d__law_frac.b .nil pass0 (pa_cons (pe_op op_add (pe_op op_mulW (pe_ix ix_tup (pv 0) pe_int (fun _ _ => rfl)) (pe_ix ix_tup (pv 1) pe_int (fun _ _ => rfl))) (pe_op op_mulW (pe_ix ix_tup (pv 1) pe_int (fun _ _ => rfl)) (pe_ix ix_tup (pv 0) pe_int (fun _ _ => rfl)))) (pa_cons (pe_op op_mulW (pe_ix ix_tup (pv 0) pe_int (fun _ _ => rfl)) (pe_ix ix_tup (pv 1) pe_int (fun _ _ => rfl))) pa_nil))))), ?_⟩
    have F := @ep_var K (start n__law_add [u, v]) H u b q 0 rfl f
    have G := @ep_var K (start n__law_add [u, v]) H v c r 1 rfl g
    have x := f.bd
    have y := g.bd
    exact s_retP (ep_LowL (b := b + c + 1) (ev_add (ev_mulW (ev_0 F) (ev_1 G) (mulW x.1 (bd_den y) (by omega))) (ev_mulW (ev_0 G) (ev_1 F) (mulW y.1 (bd_den x) (by omega)))) (ev_mulW (ev_1 F) (ev_1 G) (mulW (bd_den x) (bd_den y) (by omega)))
      (Int.mul_pos (denI_pos q) (denI_pos r)) (bn_add (bn_mul x.1 (bd_den y)) (by rw [Nat.add_comm b c]; exact bn_mul y.1 (bd_den x))) (lt_pow_mono (Nat.le_succ _) (bn_mul (bd_den x) (bd_den y))) hl (add_eq q r)) fun z H1 e w => k z H1 e w
theorem ok__law_mul (T : Txt K mg) : FnOk P w K mg base CX0 3 T.d__law_mul.a T.d__law_mul.fd ["_law_one_here", "_law_other"] (sp2L K (fun _ => True) fun q r => q * r) := by
  refine T.d__law_mul.F.ok sc__law_mul (fun vs H Q E h => ?_) (fun cdv A outer s H vs Q E hr h => ?_)
  · obtain ⟨u, v, b, c, q, r, rfl, _⟩ := h
    rfl
  · obtain ⟨u, v, b, c, q, r, rfl, f, g, hl, _, k⟩ := h
    refine ⟨_, (pss_one (ps_ret (pe_call (ok__law_frac T) (hr.mono (by decide)) (by rfl) T.d__law_frac.g T.d__law_frac.F.kp T.d__law_frac.b .nil pass0 (pa_cons (pe_op op_mulW (pe_ix ix_tup (pv 0) pe_int (fun _ _ => rfl)) (pe_ix ix_tup (pv 1) pe_int (fun _ _ => rfl))) (pa_cons (pe_op op_mulW (pe_ix ix_tup (pv 0) pe_int (fun _ _ => rfl)) (pe_ix ix_tup (pv 1) pe_int (fun _ _ => rfl))) pa_nil))))), ?_⟩
    have F := @ep_var K (start n__law_mul [u, v]) H u b q 0 rfl f
    have G := @ep_var K (start n__law_mul [u, v]) H v c r 1 rfl g
    have x := f.bd
    have y := g.bd
    exact s_retP (ep_LowL (b := b + c + 1) (ev_mulW (ev_0 F) (ev_0 G) (mulW x.1 y.1 (by omega))) (ev_mulW (ev_1 F) (ev_1 G) (mulW (bd_den x) (bd_den y) (by omega)))
      (Int.mul_pos (denI_pos q) (denI_pos r)) (lt_pow_mono (Nat.le_succ _) (bn_mul x.1 y.1)) (lt_pow_mono (Nat.le_succ _) (bn_mul (bd_den x) (bd_den y))) hl (mul_eq q r)) fun z H1 e w => k z H1 e w
theorem ok__law_sub (T : Txt K mg) : FnOk P w K mg base CX0 3 T.d__law_sub.a T.d__law_sub.fd ["_law_one_here", "_law_other"] (sp2L K (fun _ => True) fun q r => q - r) := by
  refine T.d__law_sub.F.ok sc__law_sub (fun vs H Q E h => ?_) (fun cdv A outer s H vs Q E hr h => ?_)
  · obtain ⟨u, v, b, c, q, r, rfl, _⟩ := h
    rfl
  · obtain ⟨u, v, b, c, q, r, rfl, f, g, hl, _, k⟩ := h
    refine ⟨_, (pss_one (ps_ret (pe_call (ok__law_frac T) (hr.mono (by decide)) (by rfl) T.d__law_frac.g T.d__law_frac.F.kp T.d__law_frac.b .nil pass0 (pa_cons (pe_op op_sub (pe_op op_mulW (pe_ix ix_tup (pv 0) pe_int (fun _ _ => rfl)) (pe_ix ix_tup (pv 1) pe_int (fun _ _ => rfl))) (pe_op op_mulW (pe_ix ix_tup (pv 1) pe_int (fun _ _ => rfl)) (pe_ix ix_tup (pv 0) pe_int (fun _ _ => rfl)))) (pa_cons (pe_op op_mulW (pe_ix ix_tup (pv 0) pe_int (fun _ _ => rfl)) (pe_ix ix_tup (pv 1) pe_int (fun _ _ => rfl))) pa_nil))))), ?_⟩
    have F := @ep_var K (start n__law_sub [u, v]) H u b q 0 rfl f
    have G := @ep_var K (start n__law_sub [u, v]) H v c r 1 rfl g
    have x := f.bd
    have y := g.bd
    exact s_retP (ep_LowL (b := b + c + 1) (ev_sub (ev_mulW (ev_0 F) (ev_1 G) (mulW x.1 (bd_den y) (by omega))) (ev_mulW (ev_0 G) (ev_1 F) (mulW y.1 (bd_den x) (by omega)))) (ev_mulW (ev_1 F) (ev_1 G) (mulW (bd_den x) (bd_den y) (by omega)))
      (Int.mul_pos (denI_pos q) (denI_pos r)) (bn_sub (bn_mul x.1 (bd_den y)) (by rw [Nat.add_comm b c]; exact bn_mul y.1 (bd_den x))) (lt_pow_mono (Nat.le_succ _) (bn_mul (bd_den x) (bd_den y))) hl (sub_eq q r)) fun z H1 e w => k z H1 e w
theorem ok__law_is_less (T : Txt K mg) : FnOk P w K mg base CX0 1 T.d__law_is_less.a T.d__law_is_less.fd ["_law_one_here", "_law_other"] (spLt K) := by
  refine T.d__law_is_less.F.ok sc__law_is_less (fun vs H Q E h => ?_) (fun cdv A outer s H vs Q E hr h => ?_)
  · obtain ⟨u, v, b, c, q, r, rfl, _⟩ := h
    rfl
  · obtain ⟨u, v, b, c, q, r, rfl, f, g, hl, k⟩ := h
    refine ⟨_, (pss_one (ps_ret (pe_cmpR op_lt (pe_op op_mulW (pe_ix ix_tup (pv 0) pe_int (fun _ _ => rfl)) (pe_ix ix_tup (pv 1) pe_int (fun _ _ => rfl))) (pe_op op_mulW (pe_ix ix_tup (pv 1) pe_int (fun _ _ => rfl)) (pe_ix ix_tup (pv 0) pe_int (fun _ _ => rfl))) (nomark _)))), ?_⟩
    have F := @ep_var K (start n__law_is_less [u, v]) H u b q 0 rfl f
    have G := @ep_var K (start n__law_is_less [u, v]) H v c r 1 rfl g
    have x := f.bd
    have y := g.bd
    refine s_ret (ev_op (ev_mulW (ev_0 F) (ev_1 G) (mulW x.1 (bd_den y) (by omega))) (ev_mulW (ev_0 G) (ev_1 F) (mulW y.1 (bd_den x) (by omega))) rv_I0) fun H1 e => ?_
    rw [lt_num]
    exact k H1 e
def spSame (K : PySem.W.Frag) : Sp := fun vs H Q _ => ∃ (p : Addr) (u v : V) (d e : PyData), vs = [u, v] ∧ Dq K p H u d ∧ Dq K p H v e ∧ Nc 900000 60 d ∧ Nc 900000 60 e ∧ ∀ H', Ex H H' → Q (.bl (decide (d.shown = e.shown))) H'
theorem ok__law_same (T : Txt K mg) : FnG P w K mg base 1 T.d__law_same.a T.d__law_same.fd ["_law_one_here", "_law_other"] (spSame K) := by
  refine okG T.d__law_same.F sc__law_same (fun vs H Q E h => ?_) (fun cdv A outer s H vs Q gd hr h => ?_)
  · obtain ⟨p, u, v, d, e, rfl, _⟩ := h
    rfl
  · obtain ⟨p, u, v, d, e, rfl, hd, he, nd, ne, k⟩ := h
    have hu := hr.units
    refine ⟨_, (pss_one (ps_ret (pe_cmpR op_eq (pe_callB (call_repr gd hu) (by rfl) T.n_repr (by decide +kernel) (pa_cons (pv 0) pa_nil)) (pe_callB (call_repr gd hu) (by rfl) T.n_repr (by decide +kernel) (pa_cons (pv 1) pa_nil)) (nomark _)))), ?_⟩
    have ld := nd.len (by decide)
    have le := ne.len (by decide)
    have big : 1000000 ≤ sizeLine := by decide
    refine ⟨u, rfl, u, d, p, rfl, .inl hd, nd.sh, nd.dp, by omega, v, rfl, v, e, p, rfl, .inl he, ne.sh, ne.dp, by omega, rfl, ?_⟩
    have z : decide (V.str d.shown = V.str e.shown) = decide (d.shown = e.shown) := by
      rw [Bool.eq_iff_iff, decide_eq_true_iff, decide_eq_true_iff, V.str.injEq]
    rw [z]
    exact k H (Ex.refl H)
end
/-! ### tests and groups, any data -/
theorem notF {b : Bool} (h : (!b) = true) : b = false := by cases b <;> first | rfl | cases h
theorem notT {b : Bool} (h : (!b) = false) : b = true := by cases b <;> first | rfl | cases h
def nbB (d : PyData) (c : Int) : Bool := isWh d && (decide (0 ≤ ival d) && decide (ival d < c))
def isNon : PyData → Bool
  | .none => true
  | _ => false
def testB (d : PyData) (i : Int) : Bool := match d with
  | .tuple [x, y, z] => (isNon z || nbB z i) && (posZ x && prpB y)
  | _ => false
def testsB (i : Nat) : List PyData → Bool
  | [] => true
  | d :: ds => testB d (i : Int) && testsB (i + 1) ds
def groupB : PyData → Bool
  | .tuple ds => (decide (1 ≤ ds.length) && decide (ds.length ≤ 4)) && testsB 0 ds
  | _ => false
theorem Dq.isN {K : PySem.W.Frag} {p : Addr} {H : Hp} {v : V} {d : PyData} (h : Dq K p H v d) : decide (v = .non) = isNon d := by
  cases h <;> first | rfl | exact decide_eq_false (fun z => nomatch z)
theorem isTup_ex {d : PyData} (h : isTup d = true) : ∃ ds, d = .tuple ds := by
  cases d with
  | tuple ds => exact ⟨ds, rfl⟩
  | _ => cases h
theorem testB_no {d : PyData} {i : Int} (h : isTup d = false) : testB d i = false := by
  cases d <;> first | rfl | (simp [isTup] at h)
theorem groupB_no {d : PyData} (h : isTup d = false) : groupB d = false := by
  cases d <;> first | rfl | (simp [isTup] at h)
theorem ev_notN {K : PySem.W.Frag} {p : Addr} {i : Nat} {x : V} {d : PyData} {σ : L2.St} {H : Hp} (hv : σ[i]? = some (some x)) (h : Dq K p H x d) : Ev (tOp (fun x y H Q => y = V.non ∧ Q (V.bl (!decide (x = V.non))) H) (tVar i) (tC V.non)) σ H (.bl (!isNon d)) := fun H1 e Q k => by
  refine ⟨x, hv, rfl, ?_⟩
  rw [h.isN]
  exact k H1 (Ex.refl H1)
def spNBd (K : PySem.W.Frag) : Sp := fun vs H Q _ => ∃ (p : Addr) (v : V) (d : PyData) (c : Int), vs = [v, .int c] ∧ Dq K p H v d ∧ ∀ H', Ex H H' → Q (.bl (nbB d c)) H'
def spTest (K : PySem.W.Frag) : Sp := fun vs H Q _ => ∃ (p : Addr) (v : V) (d : PyData) (i : Int), vs = [v, .int i] ∧ Dq K p H v d ∧ ∀ H', Ex H H' → Q (.bl (testB d i)) H'
def spGrp (K : PySem.W.Frag) (Ts : List Addr) : Sp := fun vs H Q _ => ∃ (p : Addr) (v : V) (d : PyData), vs = [v] ∧ Dq K p H v d ∧ TBs Ts H ∧ ∀ H', ExT H H' → TBs Ts H' → Q (.bl (groupB d)) H'
def spReqG (K : PySem.W.Frag) (Ts : List Addr) (C : Addr) : Sp := fun vs H Q E => ∃ (p : Addr) (v : V) (d : PyData), vs = [v] ∧ Dq K p H v d ∧ TBs Ts H ∧ (groupB d = false → ∀ H', ExT H H' → TBs Ts H' → Er C v H' E) ∧ (groupB d = true → ∀ H', ExT H H' → TBs Ts H' → Q .non H')
theorem ev_nbd {K : PySem.W.Frag} {p : Addr} {H : Hp} {v : V} {d : PyData} {σ : L2.St} {E : XK} {te tc : TE} {c : Int} (he : Ev te σ H v) (hd : Dq K p H v d) (hc : Ev tc σ H (.int c)) : Ev (tCall (spNBd K) [] E (tCons te (tCons tc tNil))) σ H (.bl (nbB d c)) := fun H1 e1 Q k =>
  he H1 e1 _ fun H2 e2 => hc H2 (e1.trans e2) _ fun H3 e3 => ⟨p, v, d, c, rfl, Dq.ex ((e1.trans e2).trans e3) _ _ hd, fun H4 e4 => k H4 ((e2.trans e3).trans e4)⟩
theorem rd_tests {K : PySem.W.Frag} {p a : Addr} {xs : List V} {ds : List PyData} {E : XK} {Q : Bool → Hp → Prop} : ∀ (m i : Nat) (H : Hp), i + m = xs.length → SqT K H a xs → DqAll K p H xs ds → (∀ H', Ex H H' → Q (testsB i (ds.drop i)) H') →
    rdAllI (gTup K 2 (gCons (gName 1) (gCons (gName 2) gNil))) (tCall (spTest K) [] E (tCons (tVar 2) (tCons (tVar 1) tNil))) (IteT K a) 3 m i H Q
  | 0, i, H, e, hS, hA, k => ⟨⟨xs, hS, by omega⟩, by
    have := k H (Ex.refl H)
    rwa [List.drop_of_length_le (by rw [← hA.len]; omega)] at this⟩
  | m + 1, i, H, e, hS, hA, k => by
    have il : i < xs.length := by omega
    have ei := List.getElem?_eq_getElem il
    refine ⟨⟨xs, _, hS, ei⟩, ?_⟩
    rintro x H1 ⟨T0, y, rfl, hT, rfl, hy⟩ σ hl hz
    have hy' := hy xs hS
    have dl := hA.len
    obtain ⟨d, hd⟩ : ∃ d, ds[i]? = some d := ⟨_, List.getElem?_eq_getElem (by omega)⟩
    obtain ⟨y', hy2, qt⟩ := hA.get hd
    rw [hy'] at hy2
    cases hy2
    have dd : ds.drop i = d :: ds.drop (i + 1) := by
      rw [List.getElem?_eq_some_iff] at hd
      obtain ⟨h1, rfl⟩ := hd
      exact List.drop_eq_getElem_cons h1
    match σ, hl, hz with
    | [s0, s1, s2], _, hz =>
      simp only [List.getElem?_cons_zero, Option.some.injEq] at hz
      subst hz
      have x1 := Ex.new (o := .tup [.int (i : Nat), y]) hT
      refine ⟨T0, _, rfl, SqT.of upd_same, rfl, _, _, rfl, _, _, rfl, rfl, ?_⟩
      refine ⟨rfl, rfl, y, rfl, _, rfl, p, y, d, i, rfl, Dq.ex x1 _ _ qt, fun H2 e2 => ⟨testB d i, rfl, fun hb => ?_, fun hb => ?_⟩⟩
      · have x2 := x1.trans e2
        refine rd_tests m (i + 1) H2 (by omega) (ex_t x2 hS) (DqAll.ex x2 _ _ hA) fun H' e' => ?_
        have := k H' (x2.trans e')
        rw [dd] at this
        have t : testsB i (d :: ds.drop (i + 1)) = testsB (i + 1) (ds.drop (i + 1)) := by
          show (_ && _) = _
          rw [hb, Bool.true_and]
        rwa [t] at this
      · have := k H2 (x1.trans e2)
        rw [dd] at this
        have t : testsB i (d :: ds.drop (i + 1)) = false := by
          show (_ && _) = _
          rw [hb, Bool.false_and]
        rwa [t] at this
section
variable {P : Program} {w : World} {K : PySem.W.Frag} {mg : Str → Option Value} {base : Heap}
theorem ok_is_number_below (T : Txt K mg) : FnOk P w K mg base CX0 2 T.d_is_number_below.a T.d_is_number_below.fd ["value", "count"] (spNBd K) := by
  refine T.d_is_number_below.F.ok sc_is_number_below (fun vs H Q E h => ?_) (fun cdv A outer s H vs Q E hr h => ?_)
  · obtain ⟨p, v, d, c, rfl, _⟩ := h
    rfl
  · obtain ⟨p, v, d, c, rfl, hd, k⟩ := h
    refine ⟨_, (pss_one (ps_ret (pe_and (pe_call (ok_is_whole T) (hr.mono (by decide)) (by rfl) T.d_is_whole.g T.d_is_whole.F.kp T.d_is_whole.b .nil pass0 (pa_cons (pv 0) pa_nil)) (pe_one (pe_chain op_le op_lt pe_int (pv 0) (pv 1)))))), ?_⟩
    refine s_ret (ev_andV (a := isWh d) (b := decide (0 ≤ ival d) && decide (ival d < c)) (ev_isD (ev_var rfl) hd trivial) fun hb => ?_) fun H1 e => k H1 e
    obtain ⟨rfl, _⟩ := hd.ival hb
    exact ev_chain ev_c (ev_var rfl) (ev_var rfl) (fun H => rv_I0) fun H => rv_I0
theorem ok_is_test (T : Txt K mg) : FnOk P w K mg base CX0 4 T.d_is_test.a T.d_is_test.fd ["value", "number"] (spTest K) := by
  refine T.d_is_test.F.ok sc_is_test (fun vs H Q E h => ?_) (fun cdv A outer s H vs Q E hr h => ?_)
  · obtain ⟨p, v, d, i, rfl, _⟩ := h
    rfl
  · obtain ⟨p, v, d, i, rfl, hd, k⟩ := h
    refine ⟨_, (pss_cons (ps_if (PW.pt (pw_or (pt_not (pt_val (pe_callB call_isi (by rfl) T.n_isinstance (by decide +kernel) (pa_cons (pv 0) (pa_cons (pe_bltn (v := .ty "tuple") (by rfl) T.n_tuple (by decide +kernel) rfl) pa_nil))))) (pw_or1 (pt_cmpR op_ne (pe_callB call_len_seq (by rfl) T.n_len (by decide +kernel) (pa_cons (pv 0) pa_nil)) pe_int (nomark _))))) (pss_one (ps_ret pe_bl)) pss_nil)
      (pss_cons (ps_asg (pv 0) (pg_tup (by rfl) (pgs_cons (pg_name (i := 2) sc_is_test.nd rfl (Or.inl rfl)) (pgs_cons (pg_name (i := 3) sc_is_test.nd rfl (Or.inl rfl)) (pgs_cons (pg_name (i := 4) sc_is_test.nd rfl (Or.inl rfl)) pgs_nil)))))
      (pss_cons (ps_if (PW.pt (pw_and (pt_cmpR op_notN (pv 4) pe_non (nomark _)) (pw_and1 (pt_not (pt_val (pe_call (ok_is_number_below T) (hr.mono (by decide)) (by rfl) T.d_is_number_below.g T.d_is_number_below.F.kp T.d_is_number_below.b .nil pass0 (pa_cons (pv 4) (pa_cons (pv 1) pa_nil)))))))) (pss_one (ps_ret pe_bl)) pss_nil)
      (pss_one (ps_ret (pe_and (pe_call (ok_is_from_zero T) (hr.mono (by decide)) (by rfl) T.d_is_from_zero.g T.d_is_from_zero.F.kp T.d_is_from_zero.b .nil pass0 (pa_cons (pv 2) pa_nil)) (pe_one (pe_call (ok_is_proper T) (hr.mono (by decide)) (by rfl) T.d_is_proper.g T.d_is_proper.F.kp T.d_is_proper.b .nil pass0 (pa_cons (pv 3) pa_nil))))))))), ?_⟩
    have no : testB d i = false → ∀ H', Ex H H' → Q (.bl false) H' := fun e H' e' => by
      have := k H' e'
      rwa [e] at this
    cases hi : isTup d with
    | false => exact s_if (b := true) (et_is (et_or (a := true) (b := true) (et_is (et_not (et_B (ev_isi rfl hd (kit_tup d)))) (by rw [hi]; rfl)) fun z => nomatch z) rfl) (fun _ H1 e1 => no (testB_no hi) H1 e1) (fun z => nomatch z)
    | true =>
    obtain ⟨ds, rfl⟩ := isTup_ex hi
    by_cases h3 : ds.length = 3
    case neg =>
      have n2 : V.int (ds.length : Int) ≠ V.int 3 := fun z => h3 (by
        have := V.int.inj z
        omega)
      have e : testB (.tuple ds) i = false := by
        match ds, h3 with
        | [], _ => rfl
        | [_], _ => rfl
        | [_, _], _ => rfl
        | [_, _, _], h => exact absurd rfl h
        | _ :: _ :: _ :: _ :: _, _ => rfl
      exact s_if (b := true) (et_is (et_or (a := false) (b := true) (et_is (et_not (et_B (ev_isi (b := true) rfl hd rfl))) rfl) fun _ => et_is (et_test (ev_op (ev_lenT rfl hd) ev_c (rv_ne rfl))) (by rw [decide_eq_false n2]; rfl)) rfl) (fun _ H1 e1 => no e H1 e1) (fun z => nomatch z)
    obtain ⟨x, y, z, rfl⟩ : ∃ x y z, ds = [x, y, z] := match ds, h3 with | [x, y, z], _ => ⟨x, y, z, rfl⟩
    refine s_if (b := false) (et_is (et_or (a := false) (et_is (et_not (et_B (ev_isi (b := true) rfl hd rfl))) rfl) fun _ => et_is (et_test (ev_op (ev_lenT rfl hd) ev_c (rv_ne rfl))) rfl) rfl) (fun z => nomatch z) (fun _ H1 e1 => ?_)
    obtain ⟨a, xs, rfl, hS, hA⟩ := (Dq.ex e1 _ _ hd).seq
    cases hA with
    | @cons vx _ _ _ q1 hA =>
    cases hA with
    | @cons vy _ _ _ q2 hA =>
    cases hA with
    | @cons vz _ _ _ q3 hA =>
    cases hA
    refine n_next ?_
    dsimp only
    refine n_seq ?_
    refine ⟨_, rfl, a, [vx, vy, vz], rfl, hS, rfl, _, _, rfl, _, _, rfl, _, _, rfl, rfl, ?_⟩
    dsimp only
    refine n_seq ?_
    refine s_if (b := !(isNon z || nbB z i)) (et_is (et_and (et_test (ev_notN rfl q3)) fun _ => et_not (et_B (ev_nbd (ev_var rfl) q3 (ev_var rfl)))) (by cases isNon z <;> cases nbB z i <;> rfl)) (fun hb H2 e2 => ?_) (fun hb H2 e2 => ?_)
    · refine no ?_ H2 (e1.trans e2)
      show (_ && _) = _
      rw [notF hb, Bool.false_and]
    · refine n_next ?_
      dsimp only
      have hz : (isNon z || nbB z i) = true := notT hb
      refine s_ret (v := .bl (posZ x && prpB y)) (ev_andV (ev_isD (ev_var rfl) (Dq.ex e2 _ _ q1) trivial) fun _ => ev_isD (ev_var rfl) (Dq.ex e2 _ _ q2) trivial) fun H3 e3 => ?_
      have := k H3 ((e1.trans e2).trans e3)
      have e : testB (.tuple [x, y, z]) i = (posZ x && prpB y) := by
        show (_ && _) = _
        rw [hz, Bool.true_and]
      rwa [e] at this
theorem ok_is_group (T : Txt K mg) (tb : GxR.TabB base mg T.c_is_group T.P_is_group) : FnOk P w K mg base CX0 6 T.d_is_group.a T.d_is_group.fd ["value"] (spGrp K [T.P_is_group]) := by
  refine okC T.d_is_group.F T.h_is_group sc_is_group (fun vs H Q E h => ?_) (fun A outer s H vs Q E hr h => ?_)
  · obtain ⟨p, v, d, rfl, _⟩ := h
    rfl
  · obtain ⟨p, v, d, rfl, hd, ht, k⟩ := h
    refine ⟨_, (pss_cons (ps_if (PW.pt (pw_or (pt_not (pt_val (pe_callB call_isi (by rfl) T.n_isinstance (by decide +kernel) (pa_cons (pv 0) (pa_cons (pe_bltn (v := .ty "tuple") (by rfl) T.n_tuple (by decide +kernel) rfl) pa_nil))))) (pw_or1 (pt_not (pt_chain op_le op_le pe_int (pe_callB call_len_seq (by rfl) T.n_len (by decide +kernel) (pa_cons (pv 0) pa_nil)) (pe_glob (v := .int 4) rfl T.c_MOST_TESTS ⟨_, rfl⟩)))))) (pss_one (ps_ret pe_bl)) pss_nil)
      (pss_one (ps_ret (pe_allI (xs := ["number", "entry"]) hr (by rfl) T.n_all tb rfl ⟨rfl, rfl, by decide, rfl, by decide⟩ (pi_enumT (by rfl) T.n_enumerate (pa_cons (pv 0) pa_nil)) (fun _ _ _ _ _ ec => pg_two ec (by decide +kernel) (by decide +kernel) (by decide +kernel)) (fun _ _ _ _ _ _ hr => (pe_call (ok_is_test T) (hr.mono (by decide)) (by rfl) T.d_is_test.g T.d_is_test.F.kp T.d_is_test.b .nil pass0 (pa_cons (pv 2) (pa_cons (pv 1) pa_nil)))) (fun _ => rfl))))), ?_⟩
    have no : groupB d = false → ∀ H', Ex H H' → Q (.bl false) H' := fun e H' e' => by
      have := k H' (Ex.t e') (ht.ex e')
      rwa [e] at this
    cases hi : isTup d with
    | false => exact s_if (b := true) (et_is (et_or (a := true) (b := true) (et_is (et_not (et_B (ev_isi rfl hd (kit_tup d)))) (by rw [hi]; rfl)) fun z => nomatch z) rfl) (fun _ H1 e1 => no (groupB_no hi) H1 e1) (fun z => nomatch z)
    | true =>
    obtain ⟨ds, rfl⟩ := isTup_ex hi
    have c0 : (decide ((1 : Int) ≤ (ds.length : Int)) && decide ((ds.length : Int) ≤ 4)) = (decide (1 ≤ ds.length) && decide (ds.length ≤ 4)) := by
      rw [Bool.eq_iff_iff, Bool.and_eq_true, Bool.and_eq_true, decide_eq_true_iff, decide_eq_true_iff, decide_eq_true_iff, decide_eq_true_iff]
      omega
    refine s_if (b := !(decide (1 ≤ ds.length) && decide (ds.length ≤ 4))) (et_is (et_or (a := false) (et_is (et_not (et_B (ev_isi (b := true) rfl hd rfl))) rfl) fun _ => et_not (et_test (ev_is (ev_chain ev_c (ev_lenT (i := 0) rfl hd) ev_c (fun H => rv_I0) fun H => rv_I0) (by rw [c0])))) rfl) (fun hb H1 e1 => ?_) (fun hb H1 e1 => ?_)
    · refine no ?_ H1 e1
      show (_ && _) = _
      rw [notF hb, Bool.false_and]
    · have hb' : (decide (1 ≤ ds.length) && decide (ds.length ≤ 4)) = true := notT hb
      have e : groupB (.tuple ds) = testsB 0 ds := by
        show (_ && _) = _
        rw [hb', Bool.true_and]
      rw [e] at k
      obtain ⟨a, xs, rfl, hS, hA⟩ := (Dq.ex e1 _ _ hd).seq
      have ht1 := ht.ex e1
      refine n_next ?_
      dsimp only
      refine ⟨.ref a, rfl, a, xs, rfl, hS, ht1 _ (by simp), fun H2 tb => ⟨xs.length, ?_⟩⟩
      have e2 := Tabd.t (ht1 _ (by simp)) tb
      exact rd_tests xs.length 0 H2 (by omega) (e2.st hS) (DqAll.xt e2 _ _ hA) fun H3 e3 => k H3 (((Ex.t e1).trans e2).trans (Ex.t e3)) ((ht1.tb tb).ex e3)
theorem ok_require_group (T : Txt K mg) (tb : GxR.TabB base mg T.c_is_group T.P_is_group) : FnOk P w K mg base (L2.CX P w) 7 T.d_require_group.a T.d_require_group.fd ["value"] (spReqG K [T.P_is_group] T.E_BadGroup.C) := by
  refine T.d_require_group.F.okX sc_require_group (fun vs H Q E h => ?_) (fun cdv A outer s H vs Q E hr h => ?_)
  · obtain ⟨p, v, d, rfl, _⟩ := h
    rfl
  · obtain ⟨p, v, d, rfl, hd, ht, k1, k2⟩ := h
    refine ⟨_, (pss_one (ps_if (pt_not (pt_val (pe_call (ok_is_group T tb) (hr.mono (by decide)) (by rfl) T.d_is_group.g T.d_is_group.F.kp T.d_is_group.b .nil pass0 (pa_cons (pv 0) pa_nil)))) (pss_one (ps_raise rfl (takes_of rfl rfl rfl rfl) (pmk_oex T.E_BadGroup.x.oex T.E_BadGroup.x.i T.E_BadGroup.x.t (ok_i_BadGroup T) (hr.mono (by decide)) T.E_BadGroup.b .nil pass0 (by rfl) T.E_BadGroup.g (pa_cons (pv 0) pa_nil)))) pss_nil)), ?_⟩
    refine ⟨v, rfl, p, v, d, rfl, hd, ht, fun H1 e1 t1 => ⟨_, rfl, ?_⟩⟩
    cases hg : groupB d with
    | false =>
      refine iteT ?_
      exact rd_raise rfl (k1 hg H1 e1 t1)
    | true =>
      refine iteF ?_
      exact n_next (k2 hg H1 e1 t1)
end
/-! ### forests of groups, as data -/
def optD : Option Nat → PyData
  | none => .none
  | some n => .int (n : Nat)
def optV : Option Nat → V
  | none => .non
  | some n => .int (n : Nat)
def tkD (t : Fk) : PyData := .tuple [optD t.par, frd t.pay, frd t.fac]
def gtD (t : Fk) : PyData := .tuple [frd (-t.pay), frd t.fac, optD t.par]
def fsD (F : List Fk) : PyData := .tuple (F.map tkD)
def gsD (F : List Fk) : PyData := .tuple (F.map gtD)
structure FOk (F : List Fk) : Prop where
  one : 1 ≤ F.length
  most : F.length ≤ 8
  lt : ∀ i p, parF F i = some p → p < i
  pay : ∀ t ∈ F, Bd 10 t.pay
  fac : ∀ t ∈ F, Bd 10 t.fac
  nn : ∀ t ∈ F, 0 ≤ t.fac
theorem Bd.neg {b : Nat} {q : Rat} (h : Bd b q) : Bd b (-q) := ⟨by rw [Rat.neg_num, Int.natAbs_neg]; exact h.1, by rw [Rat.neg_den]; exact h.2⟩
theorem Bd.add {b c : Nat} {q r : Rat} (h : Bd b q) (h' : Bd c r) : Bd (b + c + 1) (q + r) := by
  rw [← add_eq]
  exact bd_divInt (Int.mul_ne_zero (den_ne q) (den_ne r)) (bn_add (bn_mul h.1 (bd_den h')) (by rw [Nat.add_comm b c]; exact bn_mul h'.1 (bd_den h))) (lt_pow_mono (Nat.le_succ _) (bn_mul (bd_den h) (bd_den h')))
theorem Bd.mul {b c : Nat} {q r : Rat} (h : Bd b q) (h' : Bd c r) : Bd (b + c + 1) (q * r) := by
  rw [← mul_eq]
  exact bd_divInt (Int.mul_ne_zero (den_ne q) (den_ne r)) (lt_pow_mono (Nat.le_succ _) (bn_mul h.1 h'.1)) (lt_pow_mono (Nat.le_succ _) (bn_mul (bd_den h) (bd_den h')))
theorem FOk.bpay {F : List Fk} (ok : FOk F) (i : Nat) : Bd 10 (payF F i) := by
  cases h : F[i]? with
  | none =>
    unfold payF
    rw [h]
    exact ⟨by decide, by decide⟩
  | some t =>
    rw [payF_at h]
    exact ok.pay t (List.mem_of_getElem? h)
theorem FOk.bfac {F : List Fk} (ok : FOk F) (i : Nat) : Bd 10 (facF F i) := by
  cases h : F[i]? with
  | none =>
    unfold facF
    rw [h]
    exact ⟨by decide, by decide⟩
  | some t =>
    rw [facF_at h]
    exact ok.fac t (List.mem_of_getElem? h)
theorem FOk.nnf {F : List Fk} (ok : FOk F) (i : Nat) : 0 ≤ facF F i := by
  cases h : F[i]? with
  | none =>
    unfold facF
    rw [h]
    exact Rat.le_refl
  | some t =>
    rw [facF_at h]
    exact ok.nn t (List.mem_of_getElem? h)
theorem FOk.bworth {F : List Fk} (ok : FOk F) : ∀ l : List Nat, Bd (2 + 22 * l.length) (worthF F l)
  | [] => (show Bd 2 0 from ⟨by decide, by decide⟩)
  | i :: r => by
    rw [List.length_cons]
    exact ((ok.bpay i).add ((ok.bfac i).mul (FOk.bworth ok r))).mono (by omega)
theorem FOk.bprod {F : List Fk} (ok : FOk F) : ∀ l : List Nat, Bd (2 + 11 * l.length) (prodF F l)
  | [] => (show Bd 2 1 from ⟨by decide, by decide⟩)
  | i :: r => by
    rw [List.length_cons]
    exact ((ok.bfac i).mul (FOk.bprod ok r)).mono (by omega)
section
variable {K : PySem.W.Frag} {p : Addr} {H H' : Hp} {v : V} {t : Fk} {o : Option Nat} {F : List Fk}
theorem Dq.frq {b : Nat} {q : Rat} (h : Dq K p H v (frd q)) (bd : Bd b q) : Fr K b q v H := by
  have := h.fr (b := b) (frB_frd q) (by rw [frQ_frd]; exact bd)
  rwa [frQ_frd] at this
theorem Fr.re {b c : Nat} {q : Rat} (h : Fr K b q v H) (bd : Bd c q) : Fr K c q v H := by
  obtain ⟨a, rfl, h, _⟩ := h
  exact ⟨a, rfl, h, bd⟩
theorem opt_V (h : Dq K p H v (optD o)) : v = optV o := by
  cases o <;> (cases h; rfl)
theorem opt_D : Dq K p H (optV o) (optD o) := by
  cases o
  · exact .non
  · exact .int _
theorem Dq.g3 (h : Dq K p H v (gtD t)) : ∃ a x y, v = .ref a ∧ SqT K H a [x, y, optV t.par] ∧ Dq K p H x (frd (-t.pay)) ∧ Dq K p H y (frd t.fac) := by
  obtain ⟨a, xs, rfl, hS, hA⟩ := h.seq
  cases hA with
  | cons h1 r =>
    cases r with
    | cons h2 r =>
      cases r with
      | cons h3 r =>
        cases r
        cases opt_V h3
        exact ⟨a, _, _, rfl, hS, h1, h2⟩
theorem Dq.t3 (h : Dq K p H v (tkD t)) : ∃ a x y, v = .ref a ∧ SqT K H a [optV t.par, x, y] ∧ Dq K p H x (frd t.pay) ∧ Dq K p H y (frd t.fac) := by
  obtain ⟨a, xs, rfl, hS, hA⟩ := h.seq
  cases hA with
  | cons h1 r =>
    cases r with
    | cons h2 r =>
      cases r with
      | cons h3 r =>
        cases r
        cases opt_V h1
        exact ⟨a, _, _, rfl, hS, h2, h3⟩
theorem DqAll.at_ {f : Fk → PyData} {vs : List V} {i : Nat} {x : V} (h : DqAll K p H vs (F.map f)) (e : vs[i]? = some x) : ∃ t, F[i]? = some t ∧ Dq K p H x (f t) := by
  have il : i < vs.length := (List.getElem?_eq_some_iff.mp e).1
  have l := h.len
  rw [List.length_map] at l
  have e2 : F[i]? = some F[i] := List.getElem?_eq_getElem (by omega)
  obtain ⟨x', h1, h2⟩ := h.get (j := i) (dj := f F[i]) (by rw [List.getElem?_map, e2]; rfl)
  rw [e] at h1
  cases h1
  exact ⟨_, e2, h2⟩
end
/-! flat data stays where a list changes -/
mutual
def flatD : PyData → Bool
  | .list _ => false
  | .dict _ => false
  | .tuple ds => flatDA ds
  | _ => true
def flatDA : List PyData → Bool
  | [] => true
  | d :: ds => flatD d && flatDA ds
end
def tupd (H : Hp) (a : Addr) : Prop := (∀ xs, H a ≠ some (.tup xs)) ∧ ∀ xs o, H a ≠ some (.frz o (.tup xs))
theorem tupd_l {H : Hp} {a : Addr} {xs : List V} (h : H a = some (.lst xs)) : tupd H a := ⟨fun ys => by rw [h]; exact (nofun), fun ys o => by rw [h]; exact (nofun)⟩
theorem tupd_k {H : Hp} {a : Addr} {xs : List (Key × V)} (h : H a = some (.dK xs)) : tupd H a := ⟨fun ys => by rw [h]; exact (nofun), fun ys o => by rw [h]; exact (nofun)⟩
theorem tupd_t {H : Hp} {a : Addr} (h : GxR.TabG H a) : tupd H a := by
  obtain ⟨ps, h, _⟩ := h
  exact ⟨fun ys => by rw [h]; exact (nofun), fun ys o => by rw [h]; exact (nofun)⟩
theorem sqt_tb {K : PySem.W.Frag} {H H' : Hp} {p c : Addr} {ys : List V} (hp : tupd H p) (e : ExB p H H') (h : SqT K H c ys) : SqT K H' c ys := by
  rcases h with (h | ⟨o, h⟩) | h
  · exact .inl (.inl (e c _ (by rintro rfl; exact hp.1 ys h) h))
  · exact .inl (.inr ⟨o, e c _ (by rintro rfl; exact hp.2 ys o h) h⟩)
  · exact .inr h
theorem Fr.tb {K : PySem.W.Frag} {H H' : Hp} {p : Addr} {b : Nat} {q : Rat} {z : V} (hp : tupd H p) (e : ExB p H H') (h : Fr K b q z H) : Fr K b q z H' := by
  obtain ⟨c, rfl, h, x⟩ := h
  exact ⟨c, rfl, sqt_tb hp e h, x⟩
mutual
theorem Dq.fl {K : PySem.W.Frag} {p D : Addr} {H H' : Hp} (hD : tupd H D) (e : ExB D H H') : ∀ (d : PyData) (v : V), flatD d = true → Dq K p H v d → Dq K p H' v d
  | _, _, _, .non => .non
  | _, _, _, .bl b => .bl b
  | _, _, _, .int i => .int i
  | _, _, _, .str x => .str x
  | _, _, f, .lst n m h hs => by simp [flatD] at f
  | _, _, f, .tup h hs => .tup (sqt_tb hD e h) (DqAll.fl hD e _ _ (by simpa [flatD] using f) hs)
  | _, _, f, .emp h => by simp [flatD] at f
theorem DqAll.fl {K : PySem.W.Frag} {p D : Addr} {H H' : Hp} (hD : tupd H D) (e : ExB D H H') : ∀ (ds : List PyData) (vs : List V), flatDA ds = true → DqAll K p H vs ds → DqAll K p H' vs ds
  | _, _, _, .nil => .nil
  | _, _, f, .cons h hs => by
    simp only [flatDA, Bool.and_eq_true] at f
    exact .cons (Dq.fl hD e _ _ f.1 h) (DqAll.fl hD e _ _ f.2 hs)
end
mutual
/-- flat data speaks of no list -/
theorem Dq.any {K : PySem.W.Frag} {p q : Addr} {H : Hp} : ∀ (d : PyData) (v : V), flatD d = true → Dq K p H v d → Dq K q H v d
  | _, _, _, .non => .non
  | _, _, _, .bl b => .bl b
  | _, _, _, .int i => .int i
  | _, _, _, .str x => .str x
  | _, _, f, .lst n m h hs => by simp [flatD] at f
  | _, _, f, .tup h hs => .tup h (DqAll.any _ _ (by simpa [flatD] using f) hs)
  | _, _, f, .emp h => by simp [flatD] at f
theorem DqAll.any {K : PySem.W.Frag} {p q : Addr} {H : Hp} : ∀ (ds : List PyData) (vs : List V), flatDA ds = true → DqAll K p H vs ds → DqAll K q H vs ds
  | _, _, _, .nil => .nil
  | _, _, f, .cons h hs => by
    simp only [flatDA, Bool.and_eq_true] at f
    exact .cons (Dq.any _ _ f.1 h) (DqAll.any _ _ f.2 hs)
end
theorem flat_frd (q : Rat) : flatD (frd q) = true := rfl
theorem flat_opt (o : Option Nat) : flatD (optD o) = true := by cases o <;> rfl
theorem flatDA_of : ∀ {ds : List PyData}, (∀ d ∈ ds, flatD d = true) → flatDA ds = true
  | [], _ => rfl
  | d :: ds, h => by
    simp only [flatDA, Bool.and_eq_true]
    exact ⟨h d List.mem_cons_self, flatDA_of fun x hx => h x (List.mem_cons_of_mem _ hx)⟩
theorem flat_tk (t : Fk) : flatD (tkD t) = true := by simp [tkD, flatD, flatDA, flat_frd, flat_opt]
theorem flat_gt (t : Fk) : flatD (gtD t) = true := by simp [gtD, flatD, flatDA, flat_frd, flat_opt]
theorem flat_fs (F : List Fk) : flatD (fsD F) = true := flatDA_of fun d hd => by
  obtain ⟨t, _, rfl⟩ := List.mem_map.mp hd
  exact flat_tk t
theorem flat_gs (F : List Fk) : flatD (gsD F) = true := flatDA_of fun d hd => by
  obtain ⟨t, _, rfl⟩ := List.mem_map.mp hd
  exact flat_gt t
section
variable {P : Program} {w : World} {K : PySem.W.Frag} {mg : Str → Option Value} {base : Heap}
def spAsF (K : PySem.W.Frag) : Sp := fun vs H Q _ => ∃ (p : Addr) (v : V) (F : List Fk), vs = [v] ∧ Dq K p H v (gsD F) ∧ FOk F ∧ ∀ z H', Ex H H' → Dq K p H' z (fsD F) → Q z H'
theorem ok_as_forest (T : Txt K mg) : FnOk P w K mg base CX0 2 T.d_as_forest.a T.d_as_forest.fd ["group"] (spAsF K) := by
  refine T.d_as_forest.F.ok sc_as_forest (fun vs H Q E h => ?_) (fun cdv A outer s H vs Q E hr h => ?_)
  · obtain ⟨p, v, F, rfl, _⟩ := h
    rfl
  · obtain ⟨p, v, F, rfl, hd, ok, k⟩ := h
    refine ⟨_, (pss_one (ps_ret (pe_callTy call_tuple_of (by rfl) T.n_tuple (by decide +kernel) (pa_cons (pe_lc (own := [("price", 1), ("share", 2), ("guard", 3)]) (g := gTup K 3 (gCons (gName 1) (gCons (gName 2) (gCons (gName 3) gNil)))) (tt := tYes) rfl sc_as_forest.nd (pi_tup (pv 0)) (blkOk_by (own := [("price", 1), ("share", 2), ("guard", 3)]) (N := n_as_forest) (sc := defScope s_as_forest) (by decide +kernel)) (fun _ _ _ _ _ => (pg_tup rfl (pgs_cons (pg_name (i := 1) sc_as_forest.nd rfl (Or.inl rfl)) (pgs_cons (pg_name (i := 2) sc_as_forest.nd rfl (Or.inl rfl)) (pgs_cons (pg_name (i := 3) sc_as_forest.nd rfl (Or.inl rfl)) pgs_nil))))) (fun _ _ _ _ _ => pts_nil) (fun _ _ _ _ _ => (pe_tup (pa_cons (pv 3) (pa_cons (pe_call (ok_negative T) (hr.mono (by decide)) (by rfl) T.d_negative.g T.d_negative.F.kp T.d_negative.b .nil pass0 (pa_cons (pv 1) pa_nil)) (pa_cons (pv 2) pa_nil)))))) pa_nil)))), ?_⟩
    obtain ⟨a, xs, rfl, hS, hA⟩ := hd.seq
    have xl : xs.length = F.length := by rw [hA.len, List.length_map]
    have l8 := ok.most
    refine ⟨.ref a, rfl, a, rfl, ⟨_, hS⟩, fun D nD => ?_⟩
    refine lc_tup (K := K) (a := a) (xs := xs) (fun i G => Ex H G ∧ ∃ zs, G D = some (.lst zs) ∧ zs.length = i ∧ DqAll K p G zs ((F.take i).map tkD)) ⟨Ex.new nD, [], upd_same, rfl, .nil⟩ (fun i G _ h => ex_t h.1 hS) ?_ ?_
    · rintro i x G hx ⟨ex, zs, hz, hzl, qs⟩
      have il : i < xs.length := (List.getElem?_eq_some_iff.mp hx).1
      obtain ⟨t, ht, qt⟩ := (DqAll.ex ex _ _ hA).at_ hx
      obtain ⟨b, x0, x1, rfl, hb, q0, q1⟩ := qt.g3
      have bt := (ok.pay t (List.mem_of_getElem? ht)).neg
      refine ⟨b, _, rfl, hb, rfl, _, _, rfl, _, _, rfl, _, _, rfl, rfl, rfl, ?_⟩
      refine yes_of ?_
      rw [if_pos rfl]
      have ng : ∀ {σ : L2.St}, σ[1]? = some (some x0) → EvD K p (tCall (spNeg K) [] E0 (tCons (tVar 1) tNil)) σ G (frd t.pay) := fun h1 H1 e1 Q' k' => ⟨x0, h1, x0, 10, -t.pay, rfl, (q0.frq bt).ex e1, fun z H2 e2 f => k' z H2 e2 (by rw [Rat.neg_neg] at f; exact f.dq)⟩
      refine (ed_tup (K := K) (p := p) (ds := [optD t.par, frd t.pay, frd t.fac]) (eds_cons (ed_var rfl opt_D) (eds_cons (ng rfl) (eds_cons (ed_var rfl q1) eds_nil))) (by show 3 ≤ 1000; decide)) G (Ex.refl _) _ fun y G2 e2 qy => ?_
      have hz2 := e2 _ _ hz
      have up : ExB D G2 (upd G2 D (.lst (zs ++ [y]))) := ExB.upd (ExB.refl D G2)
      refine ⟨zs, hz2, small1000 (by omega), Ex.mut (ex.trans e2) nD, zs ++ [y], upd_same, by rw [List.length_append, hzl]; rfl, ?_⟩
      rw [List.take_succ, ht, List.map_append]
      have fl : flatDA ((F.take i).map tkD) = true := flatDA_of fun d hd => by
        obtain ⟨t, _, rfl⟩ := List.mem_map.mp hd
        exact flat_tk t
      exact (DqAll.fl (tupd_l hz2) up _ _ fl (DqAll.ex e2 _ _ qs)).append (.cons (Dq.fl (tupd_l hz2) up _ _ (flat_tk t) qy) .nil)
    · rintro G ⟨ex, zs, hz, hzl, qs⟩
      rw [xl, List.take_of_length_le (Nat.le_refl _)] at qs
      refine ⟨D, zs, rfl, .inl ⟨SqL.of hz, fun t ft => ?_⟩⟩
      have x1 := Ex.new (o := .tup zs) ft
      exact k (.ref t) _ (ex.trans x1) (.tup (SqT.of upd_same) (DqAll.ex x1 _ _ qs))
end
def intsV (ns : List Nat) : List V := ns.map fun (n : Nat) => V.int n
theorem intsV_len (ns : List Nat) : (intsV ns).length = ns.length := List.length_map ..
theorem intsV_at {ns : List Nat} {i : Nat} {x : V} (h : (intsV ns)[i]? = some x) : ∃ n : Nat, ns[i]? = some n ∧ x = .int (n : Nat) := by
  unfold intsV at h
  rw [List.getElem?_map] at h
  cases hn : ns[i]? with
  | none => rw [hn] at h; cases h
  | some n =>
    rw [hn] at h
    cases h
    exact ⟨n, rfl, rfl⟩
theorem take_snoc {α : Type} {ns : List α} {i : Nat} {n : α} (h : ns[i]? = some n) : ns.take (i + 1) = ns.take i ++ [n] := by
  rw [List.take_succ, h]
  rfl
theorem worth_snoc (F : List Fk) (a : List Nat) (i : Nat) : worthF F (a ++ [i]) = worthF F a + prodF F a * payF F i := by
  rw [worth_app]
  show _ + _ * (payF F i + facF F i * 0) = _
  grind
theorem prod_snoc (F : List Fk) (a : List Nat) (i : Nat) : prodF F (a ++ [i]) = prodF F a * facF F i := by
  rw [prod_app]
  show _ * (facF F i * 1) = _
  grind
section
variable {K : PySem.W.Frag} {p : Addr} {σ : L2.St} {H : Hp} {u : V} {F : List Fk} {i j n : Nat}
/-- forest[number][1], forest[number][2] -/
theorem ep_pay (ok : FOk F) (hi : σ[i]? = some (some u)) (hu : Dq K p H u (fsD F)) (hj : σ[j]? = some (some (.int (n : Nat)))) (l : n < F.length) : EvP (tOp (rIxT K) (tOp (rIxT K) (tVar i) (tVar j)) (tC (.int 1))) σ H (Fr K 10 (payF F n)) := fun H1 e Q k => by
  obtain ⟨a, xs, rfl, hS, hA⟩ := (Dq.ex e _ _ hu).seq
  have il : n < xs.length := by rw [hA.len, List.length_map]; exact l
  have hx := List.getElem?_eq_getElem il
  obtain ⟨t, ht, qt⟩ := hA.at_ hx
  obtain ⟨b, x0, x1, e1, hb, q0, q1⟩ := qt.t3
  refine ⟨_, hi, _, hj, a, xs, (n : Int), _, rfl, rfl, hS, atI_nat hx, ?_⟩
  rw [e1]
  refine ⟨b, _, 1, x0, rfl, rfl, hb, rfl, k x0 H1 (Ex.refl _) ?_⟩
  rw [payF_at ht]
  exact q0.frq (ok.pay t (List.mem_of_getElem? ht))
theorem ep_fac (ok : FOk F) (hi : σ[i]? = some (some u)) (hu : Dq K p H u (fsD F)) (hj : σ[j]? = some (some (.int (n : Nat)))) (l : n < F.length) : EvP (tOp (rIxT K) (tOp (rIxT K) (tVar i) (tVar j)) (tC (.int 2))) σ H (Fr K 10 (facF F n)) := fun H1 e Q k => by
  obtain ⟨a, xs, rfl, hS, hA⟩ := (Dq.ex e _ _ hu).seq
  have il : n < xs.length := by rw [hA.len, List.length_map]; exact l
  have hx := List.getElem?_eq_getElem il
  obtain ⟨t, ht, qt⟩ := hA.at_ hx
  obtain ⟨b, x0, x1, e1, hb, q0, q1⟩ := qt.t3
  refine ⟨_, hi, _, hj, a, xs, (n : Int), _, rfl, rfl, hS, atI_nat hx, ?_⟩
  rw [e1]
  refine ⟨b, _, 2, x1, rfl, rfl, hb, rfl, k x1 H1 (Ex.refl _) ?_⟩
  rw [facF_at ht]
  exact q1.frq (ok.fac t (List.mem_of_getElem? ht))
end
section
variable {P : Program} {w : World} {K : PySem.W.Frag} {mg : Str → Option Value} {base : Heap}
def spRunOf (K : PySem.W.Frag) : Sp := fun vs H Q _ => ∃ (p : Addr) (u : V) (l : Addr) (F : List Fk) (ns : List Nat), vs = [u, .ref l] ∧ Dq K p H u (fsD F) ∧ FOk F ∧ SqL K H l (intsV ns) ∧ (∀ n ∈ ns, n < F.length) ∧ ns.length ≤ 8 ∧
  ∀ t x y H', Ex H H' → SqT K H' t [x, y] → Fr K (2 + 22 * ns.length) (worthF F ns) x H' → Fr K (2 + 11 * ns.length) (prodF F ns) y H' → Q (.ref t) H'
theorem ok_run_of (T : Txt K mg) : FnOk P w K mg base CX0 3 T.d_run_of.a T.d_run_of.fd ["forest", "tasks"] (spRunOf K) := by
  refine T.d_run_of.F.ok sc_run_of (fun vs H Q E h => ?_) (fun cdv A outer s H vs Q E hr h => ?_)
  · obtain ⟨p, u, l, F, ns, rfl, _⟩ := h
    rfl
  · obtain ⟨p, u, l, F, ns, rfl, hu, ok, hS, hn, l8, k⟩ := h
    refine ⟨_, (pss_cons (ps_par (i := 2) (j := 3) (by rfl) sc_run_of.nd rfl rfl (by decide) rfl rfl (pa_cons (pe_glob (v := .ref T.a_ZERO) rfl T.c_ZERO rfl) (pa_cons (pe_glob (v := .ref T.a_ONE) rfl T.c_ONE rfl) pa_nil)) (by rfl))
      (pss_cons (ps_for PassesOwn.never rfl (pi_list (pv 1)) (pg_name (i := 4) sc_run_of.nd rfl (Or.inl rfl)) (pss_cons (ps_set (i := 2) sc_run_of.nd rfl (Or.inl rfl) (pe_call (ok_add T) (hr.mono (by decide)) (by rfl) T.d_add.g T.d_add.F.kp T.d_add.b .nil pass0 (pa_cons (pv 2) (pa_cons (pe_call (ok_multiply T) (hr.mono (by decide)) (by rfl) T.d_multiply.g T.d_multiply.F.kp T.d_multiply.b .nil pass0 (pa_cons (pv 3) (pa_cons (pe_ix ix_tup (pe_ix ix_tup (pv 0) (pv 4) (fun _ _ => rfl)) pe_int (fun _ _ => rfl)) pa_nil))) pa_nil))))
      (pss_one (ps_set (i := 3) sc_run_of.nd rfl (Or.inl rfl) (pe_call (ok_multiply T) (hr.mono (by decide)) (by rfl) T.d_multiply.g T.d_multiply.F.kp T.d_multiply.b .nil pass0 (pa_cons (pv 3) (pa_cons (pe_ix ix_tup (pe_ix ix_tup (pv 0) (pv 4) (fun _ _ => rfl)) pe_int (fun _ _ => rfl)) pa_nil)))))))
      (pss_one (ps_ret (pe_tup (pa_cons (pv 2) (pa_cons (pv 3) pa_nil))))))), ?_⟩
    have f0 : ∀ G, Fr K 2 0 (.ref T.a_ZERO) G := fun G => ⟨_, rfl, .inr T.k_ZERO, by decide, by decide⟩
    have f1 : ∀ G, Fr K 2 1 (.ref T.a_ONE) G := fun G => ⟨_, rfl, .inr T.k_ONE, by decide, by decide⟩
    refine n_seq ?_
    refine ⟨_, _, rfl, ?_⟩
    dsimp only
    refine n_seq ?_
    refine ⟨_, rfl, l, rfl, ⟨_, hS⟩, ?_⟩
    refine for_list (K := K) (a := l) (xs := intsV ns) (fun i σ G => Ex H G ∧ ∃ (z1 z2 : V) (y : Option V), σ = [some u, some (.ref l), some z1, some z2, y] ∧ Fr K (2 + 22 * i) (worthF F (ns.take i)) z1 G ∧ Fr K (2 + 11 * i) (prodF F (ns.take i)) z2 G) ⟨Ex.refl _, _, _, none, rfl, f0 _, f1 _⟩ (fun i σ G _ h => ex_l h.1 hS) ?_ ?_
    · rintro i x σ G hx ⟨ex, z1, z2, y, rfl, g1, g2⟩
      have il : i < ns.length := by
        have := (List.getElem?_eq_some_iff.mp hx).1
        rwa [intsV_len] at this
      obtain ⟨n, hn1, rfl⟩ := intsV_at hx
      have nl := hn n (List.mem_of_getElem? hn1)
      have tl : (ns.take (i + 1)).length = i + 1 := by rw [List.length_take]; omega
      refine n_name ?_
      dsimp only
      refine n_seq ?_
      refine s_asgP (ep_2 (K := K) (n := (2 + 22 * i) + (2 + 11 * i + 10 + 1) + 1) (ep_var rfl g1) (ep_2 (n := 2 + 11 * i + 10 + 1) (ep_var rfl g2) (ep_pay ok rfl (Dq.ex ex _ _ hu) rfl nl) trivial (by omega) rfl) trivial (by omega) rfl) fun w1 G2 e2 h1 => ?_
      dsimp only
      refine s_asgP (ep_2 (K := K) (n := 2 + 11 * i + 10 + 1) (ep_var rfl (g2.ex e2)) (ep_fac ok rfl (Dq.ex (ex.trans e2) _ _ hu) rfl nl) trivial (by omega) rfl) fun w2 G3 e3 h2 => ?_
      dsimp only
      have b1 := ok.bworth (ns.take (i + 1))
      have b2 := ok.bprod (ns.take (i + 1))
      rw [tl] at b1 b2
      rw [← worth_snoc, ← take_snoc hn1] at h1
      rw [← prod_snoc, ← take_snoc hn1] at h2
      exact ⟨(ex.trans e2).trans e3, w1, w2, _, rfl, (h1.ex e3).re b1, h2.re b2⟩
    · rintro σ G ⟨ex, z1, z2, y, rfl, g1, g2⟩
      rw [intsV_len, List.take_of_length_le (Nat.le_refl _)] at g1 g2
      refine ⟨_, rfl, _, rfl, by show 2 ≤ sizeLine; decide, fun t ft => ?_⟩
      have x1 := Ex.new (o := .tup [z1, z2]) ft
      exact k t z1 z2 _ (ex.trans x1) (SqT.of upd_same) (g1.ex x1) (g2.ex x1)
def spBit : Sp := fun vs H Q _ => ∃ d n : Nat, vs = [.int (d : Nat), .int (n : Nat)] ∧ ∀ H', Ex H H' → Q (.bl (d.testBit n)) H'
theorem bit_int (d n : Nat) : decide (V.int (Builtin.bitAnd ((d : Int) / 2 ^ ((n : Nat) : Int).toNat) 1) = V.int 1) = d.testBit n := by
  rw [bitAnd_m1, Nat.testBit_eq_decide_div_mod_eq, Bool.eq_iff_iff, decide_eq_true_iff, decide_eq_true_iff, V.int.injEq]
  have e : ((d : Int) / 2 ^ ((n : Nat) : Int).toNat) % 2 = ((d / 2 ^ n % 2 : Nat) : Int) := by
    rw [Int.toNat_natCast]
    simp
  rw [e]
  omega
theorem ok_has_bit (T : Txt K mg) : FnOk P w K mg base CX0 1 T.d_has_bit.a T.d_has_bit.fd ["bits", "number"] spBit := by
  refine T.d_has_bit.F.ok sc_has_bit (fun vs H Q E h => ?_) (fun cdv A outer s H vs Q E hr h => ?_)
  · obtain ⟨d, n, rfl, _⟩ := h
    rfl
  · obtain ⟨d, n, rfl, k⟩ := h
    refine ⟨_, (pss_one (ps_ret (pe_cmpR op_eq (pe_op op_and (pe_op op_shr (pv 0) (pv 1)) pe_int) pe_int (nomark _)))), ?_⟩
    refine s_ret (v := .bl (d.testBit n)) (ev_is (ev_op (ev_op (ev_op (ev_var rfl) (ev_var rfl) (rv_I (by omega))) ev_c rv_I0) ev_c (rv_eq rfl)) ?_) fun H1 e => k H1 e
    exact congrArg V.bl (bit_int d n)
end
/-! ### best orders, set by set -/
section
variable {P : Program} {w : World} {K : PySem.W.Frag} {mg : Str → Option Value} {base : Heap}
def opens (F : List Fk) (d m : Nat) : List Nat := (List.range m).filter (okD F d)
theorem opens_succ (F : List Fk) (d m : Nat) : opens F d (m + 1) = opens F d m ++ (if okD F d m = true then [m] else []) := by
  unfold opens
  rw [List.range_succ, List.filter_append]
  congr 1
  by_cases h : okD F d m = true
  · rw [if_pos h]; simp [h]
  · rw [if_neg h]; simp [h]
theorem opens_len (F : List Fk) (d m : Nat) : (opens F d m).length ≤ m := by
  unfold opens
  have := List.length_filter_le (okD F d) (List.range m)
  rwa [List.length_range] at this
theorem mem_opens {F : List Fk} {d i : Nat} : i ∈ opens F d F.length ↔ okD F d i = true := by
  unfold opens
  rw [List.mem_filter, List.mem_range]
  exact ⟨fun h => h.2, fun h => ⟨okD_lt h, h⟩⟩
theorem walk_enumT {K : PySem.W.Frag} {a : Addr} {xs : List V} : Walk (IteT K a) xs.length (fun H => SqT K H a xs) (YPair (fun i => some (.int (i : Nat))) (fun i => xs[i]?)) := by
  refine ⟨fun i _ hi q => ⟨xs, xs[i], q, by simp [hi]⟩, fun _ q => ⟨xs, q, Nat.le_refl _⟩, fun i H v H' _ q y => ?_⟩
  obtain ⟨T, x, h1, h2, h3, h4⟩ := y
  exact ⟨T, .int (i : Nat), x, h1, h2, h3, rfl, h4 xs q⟩
theorem ev_bit {σ : L2.St} {H : Hp} {ta tb : TE} {E : XK} {d n : Nat} (ha : Ev ta σ H (.int (d : Nat))) (hb : Ev tb σ H (.int (n : Nat))) : Ev (tCall spBit [] E (tCons ta (tCons tb tNil))) σ H (.bl (d.testBit n)) := fun H1 e Q k =>
  ha H1 e _ fun H2 e2 => hb H2 (e.trans e2) _ fun H3 e3 => ⟨d, n, rfl, fun H' e' => k H' ((e2.trans e3).trans e')⟩
def spOpn (K : PySem.W.Frag) : Sp := fun vs H Q _ => ∃ (p : Addr) (u : V) (F : List Fk) (d : Nat), vs = [u, .int (d : Nat)] ∧ Dq K p H u (fsD F) ∧ FOk F ∧ ∀ l H', Ex H H' → H l = none → H' l = some (.lst (intsV (opens F d F.length))) → Q (.ref l) H'
theorem ok_open_tasks (T : Txt K mg) : FnOk P w K mg base CX0 2 T.d_open_tasks.a T.d_open_tasks.fd ["forest", "done"] (spOpn K) := by
  refine T.d_open_tasks.F.ok sc_open_tasks (fun vs H Q E h => ?_) (fun cdv A outer s H vs Q E hr h => ?_)
  · obtain ⟨p, u, F, d, rfl, _⟩ := h
    rfl
  · obtain ⟨p, u, F, d, rfl, hu, ok, k⟩ := h
    refine ⟨_, (pss_one (ps_ret (pe_lc (own := [("number", 2), ("parent", 3), ("_", 4)]) (g := gTup K 2 (gCons (gName 2) (gCons (gTup K 3 (gCons (gName 3) (gCons (gName 4) (gCons (gName 4) gNil)))) gNil))) rfl sc_open_tasks.nd (pi_enumT (by rfl) T.n_enumerate (pa_cons (pv 0) pa_nil)) (blkOk_by (own := [("number", 2), ("parent", 3), ("_", 4)]) (N := n_open_tasks) (sc := defScope s_open_tasks) (by decide +kernel)) (fun _ _ _ _ _ => (pg_tup rfl (pgs_cons (pg_name (i := 2) sc_open_tasks.nd rfl (Or.inl rfl)) (pgs_cons (pg_tup (by rfl) (pgs_cons (pg_name (i := 3) sc_open_tasks.nd rfl (Or.inl rfl)) (pgs_cons (pg_name (i := 4) sc_open_tasks.nd rfl (Or.inl rfl)) (pgs_cons (pg_name (i := 4) sc_open_tasks.nd rfl (Or.inl rfl)) pgs_nil)))) pgs_nil)))) (fun _ _ _ _ _ => pts_one (PW.pt (pw_and (pt_not (pt_val (pe_call (ok_has_bit T) (hr.mono (by decide)) (by rfl) T.d_has_bit.g T.d_has_bit.F.kp T.d_has_bit.b .nil pass0 (pa_cons (pv 1) (pa_cons (pv 2) pa_nil))))) (pw_and1 (PW.pt (pw_or (pt_cmpR op_isN (pv 3) pe_non (nomark _)) (pw_or1 (pt_val (pe_call (ok_has_bit T) (hr.mono (by decide)) (by rfl) T.d_has_bit.g T.d_has_bit.F.kp T.d_has_bit.b .nil pass0 (pa_cons (pv 1) (pa_cons (pv 3) pa_nil))))))))))) (fun _ _ _ _ _ => (pv 2))))), ?_⟩
    obtain ⟨a, xs, rfl, hS, hA⟩ := hu.seq
    have xl : xs.length = F.length := by rw [hA.len, List.length_map]
    refine ⟨.ref a, rfl, a, xs, rfl, hS, fun D nD => ?_⟩
    refine lc_it (walk_enumT (K := K) (a := a) (xs := xs)) (fun i G => Ex H G ∧ G D = some (.lst (intsV (opens F d i)))) ⟨Ex.new nD, upd_same⟩ (fun i G _ h => ex_t h.1 hS) ?_ ?_
    · rintro i x G G' hi ⟨ex, hD⟩ ⟨T0, nx, y, rfl, hT0, rfl, h1, h2⟩
      cases h1
      obtain ⟨t, ht, qt⟩ := hA.at_ h2
      have x1 := ex.trans (Ex.new (o := .tup [.int (i : Nat), y]) hT0)
      have nT : D ≠ T0 := ne_of_none hD hT0
      obtain ⟨b, z1, z2, rfl, hb, _, _⟩ := (Dq.ex x1 _ _ qt).t3
      refine ⟨T0, _, rfl, SqT.of upd_same, rfl, _, _, rfl, _, _, rfl, b, _, rfl, hb, rfl, _, _, rfl, _, _, rfl, _, _, rfl, rfl, rfl, ?_⟩
      have il : i < F.length := by omega
      have pe := parF_at ht
      have hb2 : (!d.testBit i && upD (parF F i) d) = okD F d i := by
        unfold okD
        rw [decide_eq_true il, Bool.true_and]
      have hD' : (upd G T0 (.tup [.int (i : Nat), .ref b])) D = some (.lst (intsV (opens F d i))) := by rw [upd_ne nT]; exact hD
      have tst : ∀ (σ : L2.St), σ[1]? = some (some (.int (d : Nat))) → σ[2]? = some (some (.int (i : Nat))) → σ[3]? = some (some (optV t.par)) → EvT (tAnd (tNot (tB (tCall spBit [] E0 (tCons (tVar 1) (tCons (tVar 2) tNil))))) (tOr (tTest (tOp (fun x y H Q => y = V.non ∧ Q (V.bl (decide (x = V.non))) H) (tVar 3) (tC V.non))) (tB (tCall spBit [] E0 (tCons (tVar 1) (tCons (tVar 3) tNil)))))) σ (upd G T0 (.tup [.int (i : Nat), .ref b])) (okD F d i) := fun σ h1 h2 h3 => by
        rw [← hb2, pe]
        cases hp : t.par with
        | none =>
          rw [hp] at h3
          refine et_and (et_not (et_B (ev_bit (ev_var h1) (ev_var h2)))) fun _ => et_is (et_or (a := true) (b := true) (fun H1 e1 Q' k' => ⟨_, h3, rfl, _, rfl, k' H1 (Ex.refl _)⟩) fun z => nomatch z) rfl
        | some q =>
          rw [hp] at h3
          refine et_and (et_not (et_B (ev_bit (ev_var h1) (ev_var h2)))) fun _ => et_is (et_or (a := false) (b := d.testBit q) (fun H1 e1 Q' k' => ⟨_, h3, rfl, _, rfl, k' H1 (Ex.refl _)⟩) fun z => et_B (ev_bit (ev_var h1) (ev_var h3))) rfl
      refine ⟨rfl, ?_⟩
      refine tst _ ?_ ?_ ?_ _ (Ex.refl _) _ fun H3 e3 => ?_
      · rfl
      · rfl
      · rfl
      rw [opens_succ]
      cases hc : okD F d i with
      | true =>
        rw [if_pos rfl, if_pos rfl]
        refine ⟨_, rfl, _, e3 _ _ hD', small1000 (by rw [intsV_len]; have := opens_len F d i; have := ok.most; omega), Ex.mut (x1.trans e3) nD, ?_⟩
        rw [upd_same]
        unfold intsV
        rw [List.map_append]
        rfl
      | false =>
        rw [if_neg (by decide), if_neg (by decide), List.append_nil]
        exact ⟨x1.trans e3, e3 _ _ hD'⟩
    · rintro G ⟨ex, hD⟩
      rw [xl] at hD
      exact k D G ex nD hD
/-! the table -/
open Classical in
noncomputable def bestQ (F : List Fk) (d : Nat) : Rat := if h : ∃ q, ∃ o, Best F d q o then h.choose else 0
theorem best_q {F : List Fk} {d : Nat} {q : Rat} {o : Option Nat} (h : Best F d q o) : q = bestQ F d := by
  have ex : ∃ q, ∃ o, Best F d q o := ⟨q, o, h⟩
  have e : bestQ F d = ex.choose := by
    unfold bestQ
    rw [dif_pos ex]
  obtain ⟨o', h'⟩ := ex.choose_spec
  rw [e]
  generalize ex.choose = r at h'
  obtain ⟨l, f, g, _⟩ := h.has
  obtain ⟨l', f', g', _⟩ := h'.has
  have a := h'.most l f
  have b := h.most l' f'
  grind
noncomputable def valF (F : List Fk) (d i : Nat) : Rat := payF F i + facF F i * bestQ F (addD d i)
/-- an entry of the table -/
def Ent (K : PySem.W.Frag) (F : List Fk) (H : Hp) (d : Nat) (v : V) : Prop := ∃ t x q o, v = .ref t ∧ SqT K H t [x, optV o] ∧ Fr K 200 q x H ∧ Best F d q o
theorem Ent.ex {K : PySem.W.Frag} {F : List Fk} {H H' : Hp} {d : Nat} {v : V} (e : Ex H H') (h : Ent K F H d v) : Ent K F H' d v := by
  obtain ⟨t, x, q, o, rfl, h1, h2, h3⟩ := h
  exact ⟨t, x, q, o, rfl, ex_t e h1, h2.ex e, h3⟩
theorem Ent.tb {K : PySem.W.Frag} {F : List Fk} {H H' : Hp} {D : Addr} {d : Nat} {v : V} (hD : tupd H D) (e : ExB D H H') (h : Ent K F H d v) : Ent K F H' d v := by
  obtain ⟨t, x, q, o, rfl, h1, h2, h3⟩ := h
  exact ⟨t, x, q, o, rfl, sqt_tb hD e h1, h2.tb hD e, h3⟩
def Tbl (K : PySem.W.Frag) (F : List Fk) (H : Hp) (kvs : List (Key × V)) (lo hi : Nat) : Prop := ∀ d, lo ≤ d → d ≤ hi → ∃ v, valV kvs (.inl (d : Nat)) = some v ∧ Ent K F H d v
theorem Tbl.ex {K : PySem.W.Frag} {F : List Fk} {H H' : Hp} {kvs : List (Key × V)} {lo hi : Nat} (e : Ex H H') (h : Tbl K F H kvs lo hi) : Tbl K F H' kvs lo hi := fun d a b => by
  obtain ⟨v, h1, h2⟩ := h d a b
  exact ⟨v, h1, h2.ex e⟩
theorem FOk.best_bd {F : List Fk} (ok : FOk F) {d : Nat} {q : Rat} {o : Option Nat} (h : Best F d q o) : Bd 178 q := by
  obtain ⟨l, f, rfl, _⟩ := h.has
  have : l.length ≤ F.length := by
    have := f.2
    omega
  have := ok.most
  exact (ok.bworth l).mono (by omega)
theorem bor_int (d i : Nat) : Builtin.bitOr (d : Int) (1 * 2 ^ ((i : Nat) : Int).toNat) = ((addD d i : Nat) : Int) := by
  have e : (1 : Int) * 2 ^ ((i : Nat) : Int).toNat = ((2 ^ i : Nat) : Int) := by
    rw [Int.toNat_natCast, Int.one_mul]
    simp
  rw [e, bitOr_nn (Int.natCast_nonneg _) (Int.natCast_nonneg _), Int.toNat_natCast, Int.toNat_natCast]
  rfl
def BestSt (K : PySem.W.Frag) (F : List Fk) (d : Nat) (os : List Nat) (j : Nat) (b4 : V) (G : Hp) : Prop := (j = 0 ∧ b4 = .non) ∨ ∃ t x i, b4 = .ref t ∧ SqT K G t [x, .int ((i : Nat) : Int)] ∧ Fr K 200 (valF F d i) x G ∧ i ∈ os.take j ∧ ∀ k ∈ os.take j, valF F d k ≤ valF F d i
theorem none_ex {H H' : Hp} {a : Addr} (e : Ex H H') (h : H' a = none) : H a = none := by
  cases hh : H a with
  | none => rfl
  | some o => rw [e _ _ hh] at h; cases h
theorem ep_tab {K : PySem.W.Frag} {F : List Fk} {σ : L2.St} {G : Hp} {f : Addr} {d i lo hi : Nat} {kvs : List (Key × V)} (ok : FOk F) (h2 : σ[2]? = some (some (.ref f))) (h3 : σ[3]? = some (some (.int (d : Nat)))) (h5 : σ[5]? = some (some (.int (i : Nat)))) (i8 : i ≤ 8) (hk : G f = some (.dK kvs)) (ht : Tbl K F G kvs lo hi) (l : lo ≤ addD d i) (h : addD d i ≤ hi) :
    EvP (tOp (rIxT K) (tDGet (tVar 2) (tOp (rI0 fun i j => V.int (Builtin.bitOr i j)) (tVar 3) (tOp (rI CPow fun i j => V.int (i * 2 ^ j.toNat)) (tC (V.int 1)) (tVar 5)))) (tC (V.int 0))) σ G (Fr K 178 (bestQ F (addD d i))) := fun H1 e Q k => by
  obtain ⟨v, hv, t, x, q, o, rfl, hS, hf, hb⟩ := ht _ l h
  have eq := best_q hb
  subst eq
  refine ⟨_, h2, _, h3, _, h5, 1, (i : Nat), rfl, rfl, ⟨by omega, by omega, by decide⟩, _, _, rfl, rfl, ?_⟩
  dsimp only
  rw [bor_int]
  have g := DGet.k (k := .inl ((addD d i : Nat) : Int)) (e _ _ hk)
  rw [hv] at g
  refine ⟨f, .ref t, rfl, g, t, _, 0, x, rfl, rfl, ex_t e hS, rfl, k x H1 (Ex.refl _) ((hf.ex e).re (ok.best_bd hb))⟩
def spSets (K : PySem.W.Frag) : Sp := fun vs H Q _ => ∃ (p : Addr) (u : V) (F : List Fk), vs = [u] ∧ Dq K p H u (fsD F) ∧ FOk F ∧ ∀ f kvs H', Ex H H' → H f = none → H' f = some (.dK kvs) → Tbl K F H' kvs 0 (2 ^ F.length - 1) → Q (.ref f) H'
theorem ok_best_by_sets (T : Txt K mg) : FnOk P w K mg base CX0 3 T.d_best_by_sets.a T.d_best_by_sets.fd ["forest"] (spSets K) := by
  refine T.d_best_by_sets.F.ok sc_best_by_sets (fun vs H Q E h => ?_) (fun cdv A outer s H vs Q E hr h => ?_)
  · obtain ⟨p, u, F, rfl, _⟩ := h
    rfl
  · obtain ⟨p, u, F, rfl, hu, ok, k⟩ := h
    have hu1 := hu_of hr
    refine ⟨_, (pss_cons (ps_set (i := 1) sc_best_by_sets.nd rfl (Or.inl rfl) (pe_op op_sub (pe_op op_shl pe_int (pe_callB call_len_seq (by rfl) T.n_len (by decide +kernel) (pa_cons (pv 0) pa_nil))) pe_int))
      (pss_cons (ps_set (i := 2) sc_best_by_sets.nd rfl (Or.inl rfl) (pe_disp (pps_cons (pv 1) (pe_tup (pa_cons (pe_glob (v := .ref T.a_ZERO) rfl T.c_ZERO rfl) (pa_cons pe_non pa_nil))) pps_nil) rfl rfl (by simp) (by decide)))
      (pss_cons (ps_for PassesOwn.never rfl (pi_revR (by rfl) T.n_reversed (prg_1 (by rfl) T.n_range (pv 1))) (pg_name (i := 3) sc_best_by_sets.nd rfl (Or.inl rfl)) (pss_cons (ps_set (i := 4) sc_best_by_sets.nd rfl (Or.inl rfl) pe_non)
      (pss_cons (ps_for PassesOwn.never rfl (pi_list (pe_call (ok_open_tasks T) (hr.mono (by decide)) (by rfl) T.d_open_tasks.g T.d_open_tasks.F.kp T.d_open_tasks.b .nil pass0 (pa_cons (pv 0) (pa_cons (pv 3) pa_nil)))) (pg_name (i := 5) sc_best_by_sets.nd rfl (Or.inl rfl)) (pss_cons (ps_asg (pe_ix ix_tup (pv 0) (pv 5) (fun _ _ => rfl)) (pg_tup (by rfl) (pgs_cons (pg_name (i := 6) sc_best_by_sets.nd rfl (Or.inl rfl)) (pgs_cons (pg_name (i := 7) sc_best_by_sets.nd rfl (Or.inl rfl)) (pgs_cons (pg_name (i := 8) sc_best_by_sets.nd rfl (Or.inl rfl)) pgs_nil)))))
      (pss_cons (ps_set (i := 9) sc_best_by_sets.nd rfl (Or.inl rfl) (pe_call (ok_add T) (hr.mono (by decide)) (by rfl) T.d_add.g T.d_add.F.kp T.d_add.b .nil pass0 (pa_cons (pv 7) (pa_cons (pe_call (ok_multiply T) (hr.mono (by decide)) (by rfl) T.d_multiply.g T.d_multiply.F.kp T.d_multiply.b .nil pass0 (pa_cons (pv 8) (pa_cons (pe_ix ix_tup (pe_dget hu1 (pv 2) (pe_op op_or (pv 3) (pe_op op_shl pe_int (pv 5))) (fun _ _ => rfl)) pe_int (fun _ _ => rfl)) pa_nil))) pa_nil))))
      (pss_one (ps_if (PW.pt (pw_or (pt_cmpR op_isN (pv 4) pe_non (nomark _)) (pw_or1 (pt_cmpR op_gt (pe_ix ix_tup (pe_call (ok_subtract T) (hr.mono (by decide)) (by rfl) T.d_subtract.g T.d_subtract.F.kp T.d_subtract.b .nil pass0 (pa_cons (pv 9) (pa_cons (pe_ix ix_tup (pv 4) pe_int (fun _ _ => rfl)) pa_nil))) pe_int (fun _ _ => rfl)) pe_int (nomark _))))) (pss_one (ps_set (i := 4) sc_best_by_sets.nd rfl (Or.inl rfl) (pe_tup (pa_cons (pv 9) (pa_cons (pv 5) pa_nil))))) pss_nil)))))
      (pss_one (ps_asg (pv 4) (pg_sub (pv 2) (pv 3) (set_dict hu1)))))))
      (pss_one (ps_ret (pv 2)))))), ?_⟩
    have l8 := ok.most
    have ml : 2 ^ F.length ≤ 2 ^ 8 := Nat.pow_le_pow_right (by decide) l8
    have m256 : 2 ^ F.length ≤ 256 := ml
    have mp : 1 ≤ 2 ^ F.length := Nat.one_le_two_pow
    obtain ⟨m, hm⟩ : ∃ m, m = 2 ^ F.length - 1 := ⟨_, rfl⟩
    rw [← hm] at k
    refine n_seq ?_
    refine s_asg (v := .int (m : Nat)) (ev_is (ev_sub (ev_op ev_c (ev_lenT rfl hu) (rv_I ⟨by omega, by rw [List.length_map]; omega, by decide⟩)) ev_c) ?_) fun H1 e1 => ?_
    · rw [List.length_map, Int.toNat_natCast, Int.one_mul, hm]
      congr 1
      rw [Int.natCast_sub mp]
      simp
    dsimp only
    refine n_seq ?_
    intro f nf
    have nfH : H f = none := none_ex e1 nf
    refine ⟨_, rfl, by show 2 ≤ sizeLine; decide, fun t ft => ?_⟩
    have nft : f ≠ t := fun z => by rw [← z, upd_same] at ft; cases ft
    refine ⟨by rw [upd_ne nft]; exact upd_same, [(.inl (m : Nat), .ref t)], rfl, by show 1 ≤ 15; decide, ?_⟩
    have Z0 : Ex H1 (upd (upd (upd H1 f (.dK [])) t (.tup [.ref T.a_ZERO, .non])) f (.dK (mergeK [] [(.inl ((m : Nat) : Int), .ref t)]))) := Ex.mut ((Ex.new nf).trans (Ex.new ft)) nf
    have hf0 : (upd (upd (upd H1 f (.dK [])) t (.tup [.ref T.a_ZERO, .non])) f (.dK (mergeK [] [(.inl ((m : Nat) : Int), .ref t)]))) f = some (.dK [(.inl ((m : Nat) : Int), .ref t)]) := upd_same
    have ht0 : SqT K (upd (upd (upd H1 f (.dK [])) t (.tup [.ref T.a_ZERO, .non])) f (.dK (mergeK [] [(.inl ((m : Nat) : Int), .ref t)]))) t [.ref T.a_ZERO, .non] := SqT.of (by rw [upd_ne nft.symm]; exact upd_same)
    generalize (upd (upd (upd H1 f (.dK [])) t (.tup [.ref T.a_ZERO, .non])) f (.dK (mergeK [] [(.inl ((m : Nat) : Int), .ref t)]))) = G0 at Z0 hf0 ht0
    have T0 : Tbl K F G0 [(.inl ((m : Nat) : Int), .ref t)] m m := fun d a b => by
      have : d = m := by omega
      subst this
      exact ⟨.ref t, valV_pos rfl, t, _, 0, none, rfl, ht0, ⟨_, rfl, .inr T.k_ZERO, by decide, by decide⟩, hm ▸ Best.every F⟩
    dsimp only
    refine n_seq ?_
    refine ⟨_, rfl, (m : Nat), rfl, by omega, by omega, by omega, by omega, ?_⟩
    refine for_rangeC (fun i σ G => Ex H1 G ∧ ∃ y3 y4 y5 y6 y7 y8 y9 kvs, σ = [some u, some (.int (m : Nat)), some (.ref f), y3, y4, y5, y6, y7, y8, y9] ∧ G f = some (.dK kvs) ∧ kvs.length ≤ i + 1 ∧ i ≤ m ∧ Tbl K F G kvs (m - i) m) ⟨Z0, none, none, none, none, none, none, none, _, rfl, hf0, Nat.le_refl _, Nat.zero_le _, T0⟩ ?_ ?_
    · rintro i σ G hi ⟨ex, y3, y4, y5, y6, y7, y8, y9, kvs, rfl, hk, kl, im, tb⟩
      have him : i < m := by omega
      obtain ⟨d, hd⟩ : ∃ d, d = m - 1 - i := ⟨_, rfl⟩
      have dm : d < m := by omega
      have ed : (0 : Int) + ((((m : Nat) : Int) - 0).toNat : Nat) - 1 + (i : Nat) * (-1) = ((d : Nat) : Int) := by omega
      rw [ed]
      have tb' : Tbl K F G kvs (d + 1) m := fun x a b => tb x (by omega) b
      have d2 : d < 2 ^ F.length := by omega
      refine n_name ?_
      dsimp only
      refine n_seq ?_
      refine n_c ?_
      dsimp only
      refine n_seq ?_
      have huG := Dq.ex (e1.trans ex) _ _ hu
      refine ⟨_, rfl, _, rfl, p, u, F, d, rfl, huG, ok, fun l G1 e2 nl hl => ?_⟩
      refine ⟨l, rfl, ⟨_, SqL.of hl⟩, ?_⟩
      have hk1 := e2 _ _ hk
      have tb1 := tb'.ex e2
      have hu1' := Dq.ex e2 _ _ huG
      have tbB : ∀ j, okD F d j = true → ∃ o, Best F (addD d j) (bestQ F (addD d j)) o := fun j hj => by
        obtain ⟨v, _, t', x, q, o, _, _, _, hb⟩ := tb1 (addD d j) (add_gt (okD_bit hj)) (by have := add_lt d2 (okD_lt hj); omega)
        exact ⟨o, by rw [← best_q hb]; exact hb⟩
      refine for_list (K := K) (a := l) (xs := intsV (opens F d F.length)) (fun j σ G => ∃ b4 y5 y6 y7 y8 y9, σ = [some u, some (.int (m : Nat)), some (.ref f), some (.int (d : Nat)), some b4, y5, y6, y7, y8, y9] ∧ Ex G1 G ∧ BestSt K F d (opens F d F.length) j b4 G) ⟨_, _, _, _, _, _, rfl, Ex.refl _, .inl ⟨rfl, rfl⟩⟩ (fun j σ G _ h => by
        obtain ⟨_, _, _, _, _, _, _, e, _⟩ := h
        exact SqL.of (e _ _ hl)) ?_ ?_
      · rintro j x σ G hx ⟨b4, y5, y6, y7, y8, y9, rfl, e3, bs⟩
        obtain ⟨n, hn, rfl⟩ := intsV_at hx
        have nok : okD F d n = true := mem_opens.mp (List.mem_of_getElem? hn)
        have nl' := okD_lt nok
        have huJ := Dq.ex e3 _ _ hu1'
        have hkJ := e3 _ _ hk1
        have tbJ := tb1.ex e3
        obtain ⟨o, hb⟩ := tbB n nok
        refine n_name ?_
        dsimp only
        refine n_seq ?_
        obtain ⟨a, xs, eu, hS, hA⟩ := huJ.seq
        have il : n < xs.length := by rw [hA.len, List.length_map]; exact nl'
        have hxn := List.getElem?_eq_getElem il
        obtain ⟨t2, ht2, qt⟩ := hA.at_ hxn
        obtain ⟨b, x0, x1, eb, hb2, q0, q1⟩ := qt.t3
        refine ⟨_, rfl, _, rfl, a, xs, (n : Int), _, eu, rfl, hS, atI_nat hxn, ?_⟩
        rw [eb]
        refine ⟨b, _, rfl, hb2, rfl, _, _, rfl, _, _, rfl, _, _, rfl, rfl, ?_⟩
        dsimp only
        have g0 : Fr K 10 (payF F n) x0 G := by
          rw [payF_at ht2]
          exact q0.frq (ok.pay t2 (List.mem_of_getElem? ht2))
        have g1 : Fr K 10 (facF F n) x1 G := by
          rw [facF_at ht2]
          exact q1.frq (ok.fac t2 (List.mem_of_getElem? ht2))
        refine n_seq ?_
        refine s_asgP (ep_2 (K := K) (n := 200) (ep_var rfl g0) (ep_2 (n := 189) (ep_var rfl g1) (ep_tab (F := F) ok rfl rfl rfl (by omega) hkJ tbJ (add_gt (okD_bit nok)) (by have := add_lt d2 nl'; omega)) trivial (by omega) rfl) trivial (by omega) rfl) fun w9 G2 e4 h9 => ?_
        dsimp only
        rw [show payF F n + facF F n * bestQ F (addD d n) = valF F d n from rfl] at h9
        rcases bs with ⟨rfl, rfl⟩ | ⟨t', x', i', rfl, hS', hf', hi', hmost⟩
        · refine s_if (b := true) (et_is (et_or (a := true) (b := true) (fun H1 e1 Q' k' => ⟨_, rfl, rfl, _, rfl, k' H1 (Ex.refl _)⟩) fun z => nomatch z) rfl) (fun _ G3 e5 => ?_) (fun z => nomatch z)
          refine ⟨_, rfl, _, rfl, by show 2 ≤ sizeLine; decide, fun t5 ft5 => ?_⟩
          dsimp only
          have x5 := Ex.new (o := .tup [w9, .int (n : Nat)]) ft5
          refine ⟨_, _, _, _, _, _, rfl, ((e3.trans e4).trans e5).trans x5, .inr ⟨t5, w9, n, rfl, SqT.of upd_same, h9.ex (e5.trans x5), ?_, fun kk hkk => ?_⟩⟩
          · rw [take_snoc hn]; simp
          · rw [take_snoc hn] at hkk
            simp only [List.take_zero, List.nil_append, List.mem_singleton] at hkk
            rw [hkk]
            exact Rat.le_refl
        · have hS2 := ex_t e4 hS'
          have hf2 := hf'.ex e4
          refine s_if (b := decide (0 < (valF F d n - valF F d i').num)) (et_is (et_or (a := false) (b := decide (0 < (valF F d n - valF F d i').num)) (fun H1 e1 Q' k' => ⟨_, rfl, rfl, _, rfl, k' H1 (Ex.refl _)⟩) fun _ => et_test (ev_op (ev_0 (ep_2 (K := K) (b := 200) (c := 200) (n := 401) (ep_var rfl h9) (fun H1 e1 Q' k' => ⟨_, rfl, t', _, 0, x', rfl, rfl, ex_t e1 hS2, rfl, k' x' H1 (Ex.refl _) (hf2.ex e1)⟩) trivial (by omega) rfl)) ev_c rv_I0)) rfl) (fun hc G3 e5 => ?_) (fun hc G3 e5 => ?_)
          · have lt := (num_pos_iff _).mp (of_decide_eq_true hc)
            refine ⟨_, rfl, _, rfl, by show 2 ≤ sizeLine; decide, fun t5 ft5 => ?_⟩
            dsimp only
            have x5 := Ex.new (o := .tup [w9, .int (n : Nat)]) ft5
            refine ⟨_, _, _, _, _, _, rfl, ((e3.trans e4).trans e5).trans x5, .inr ⟨t5, w9, n, rfl, SqT.of upd_same, h9.ex (e5.trans x5), ?_, fun kk hkk => ?_⟩⟩
            · rw [take_snoc hn]; simp
            · rw [take_snoc hn] at hkk
              rcases List.mem_append.mp hkk with h | h
              · have := hmost kk h
                grind
              · rw [List.mem_singleton.mp h]
                exact Rat.le_refl
          · have lt : ¬ 0 < valF F d n - valF F d i' := fun z => (of_decide_eq_false hc) ((num_pos_iff _).mpr z)
            refine n_next ?_
            refine ⟨_, _, _, _, _, _, rfl, (e3.trans e4).trans e5, .inr ⟨t', x', i', rfl, ex_t e5 hS2, hf2.ex e5, ?_, fun kk hkk => ?_⟩⟩
            · rw [take_snoc hn]
              exact List.mem_append_left _ hi'
            · rw [take_snoc hn] at hkk
              rcases List.mem_append.mp hkk with h | h
              · exact hmost kk h
              · rw [List.mem_singleton.mp h]
                grind
      · rintro σ G ⟨b4, y5, y6, y7, y8, y9, rfl, e3, bs⟩
        rw [intsV_len] at bs
        have hkJ := e3 _ _ hk1
        have tbJ := tb1.ex e3
        obtain ⟨i0, hi0⟩ := open_one ok.lt d2 (by omega)
        have os0 : 0 < (opens F d F.length).length := List.length_pos_of_mem (mem_opens.mpr hi0)
        rcases bs with ⟨e0, _⟩ | ⟨t', x', i', rfl, hS', hf', hi', hmost⟩
        · omega
        rw [List.take_of_length_le (Nat.le_refl _)] at hi' hmost
        have iok := mem_opens.mp hi'
        obtain ⟨o, hb⟩ := tbB i' iok
        have bd : Best F d (valF F d i') (some i') := Best.step ok.nnf (fun j hj => by
          obtain ⟨o', hb'⟩ := tbB j hj
          exact ⟨_, o', hb', hmost j (mem_opens.mpr hj)⟩) iok hb rfl
        refine ⟨_, rfl, _, rfl, _, rfl, f, _, rfl, DPut.k (k := .inl ((d : Nat) : Int)) hkJ (small1000 (by omega)), ?_⟩
        dsimp only
        have up : ExB f G (upd G f (.dK (putK kvs (.inl ((d : Nat) : Int)) (.ref t')))) := ExB.upd (ExB.refl f G)
        have hfn : H1 f = none := nf
        refine ⟨Ex.mut ((ex.trans e2).trans e3) hfn, _, _, _, _, _, _, _, _, rfl, upd_same, by have := length_putK kvs (.inl ((d : Nat) : Int)) (.ref t'); omega, by omega, fun d' a b => ?_⟩
        rw [valV_put]
        by_cases c : d' = d
        · subst c
          rw [if_pos rfl]
          exact ⟨_, rfl, t', x', _, some i', rfl, sqt_tb (tupd_k hkJ) up hS', (hf'.tb (tupd_k hkJ) up), bd⟩
        · rw [if_neg (fun z => c (by have := Sum.inl.inj z; omega))]
          obtain ⟨v, h1, h2⟩ := tbJ d' (by omega) b
          exact ⟨v, h1, h2.tb (tupd_k hkJ) up⟩
    · rintro σ G ⟨ex, y3, y4, y5, y6, y7, y8, y9, kvs, rfl, hk, kl, im, tb⟩
      have e0 : (((m : Nat) : Int) - 0).toNat = m := by omega
      rw [e0, Nat.sub_self] at tb
      exact ⟨_, rfl, k f kvs G (e1.trans ex) nfH hk tb⟩
end
/-! ### the best order; orders judged -/
theorem bor_shl (d i : Nat) : ∀ {σ : L2.St} {H : Hp} {j k : Nat}, σ[j]? = some (some (.int (d : Nat))) → σ[k]? = some (some (.int (i : Nat))) → i ≤ 8 → Ev (tOp (rI0 fun i j => V.int (Builtin.bitOr i j)) (tVar j) (tOp (rI CPow fun i j => V.int (i * 2 ^ j.toNat)) (tC (V.int 1)) (tVar k))) σ H (.int ((addD d i : Nat) : Int)) := fun h3 h5 i8 =>
  ev_is (ev_op (ev_var h3) (ev_op ev_c (ev_var h5) (rv_I ⟨by omega, by omega, by decide⟩)) rv_I0) (congrArg V.int (bor_int d i))
section
variable {P : Program} {w : World} {K : PySem.W.Frag} {mg : Str → Option Value} {base : Heap}
def spRunB (K : PySem.W.Frag) : Sp := fun vs H Q _ => ∃ (p : Addr) (u : V) (F : List Fk), vs = [u] ∧ Dq K p H u (fsD F) ∧ FOk F ∧
  ∀ t x l ord H', Ex H H' → SqT K H' t [x, .ref l] → Fr K 200 (worthF F ord) x H' → H l = none → l ≠ sysModules → H' l = some (.lst (intsV ord)) → Full F 0 ord → (∀ l', Full F 0 l' → worthF F l' ≤ worthF F ord) → Q (.ref t) H'
/-- the way so far -/
structure Way (F : List Fk) (pre : List Nat) (d : Nat) : Prop where
  go : ∀ l, Full F d l → Full F 0 (pre ++ l)
  bits : d < 2 ^ F.length
  worth : ∀ q o, Best F d q o → worthF F pre + prodF F pre * q = bestQ F 0
  len : pre.length = cntD d F.length
theorem Way.nil (F : List Fk) : Way F [] 0 where
  go := fun l h => h
  bits := Nat.two_pow_pos _
  worth := fun q o h => by
    show 0 + 1 * q = _
    rw [best_q h]
    grind
  len := (cnt_zero _).symm
theorem Way.next {F : List Fk} {pre : List Nat} {d i : Nat} {q : Rat} (nn : ∀ j, 0 ≤ facF F j) (h : Way F pre d) (hb : Best F d q (some i)) : Way F (pre ++ [i]) (addD d i) where
  go := fun l hl => by
    rw [List.append_assoc]
    exact h.go _ (full_cons.mpr ⟨(hb.next nn).1, hl⟩)
  bits := add_lt h.bits (okD_lt (hb.next nn).1)
  worth := fun q' o h' => by
    rw [worth_snoc, prod_snoc, ← h.worth q _ hb, (hb.next nn).2 q' o h']
    grind
  len := by rw [List.length_append, okD_cnt (hb.next nn).1, h.len]; rfl
theorem Ex.mutB {H G : Hp} {l : Addr} {o : HO} (h : H l = none) (e : ExB l (upd H l o) G) : Ex H G := fun b u hb => by
  have n : b ≠ l := fun z => by rw [z, h] at hb; cases hb
  exact e b u n (by rw [upd_ne n]; exact hb)
theorem ep_at {K : PySem.W.Frag} {F : List Fk} {σ : L2.St} {G : Hp} {f : Addr} {d hi i j : Nat} {kvs : List (Key × V)} {n : Int} {Q : VK} (h2 : σ[i]? = some (some (.ref f))) (h3 : σ[j]? = some (some (.int (d : Nat)))) (hk : G f = some (.dK kvs)) (ht : Tbl K F G kvs 0 hi) (h : d ≤ hi)
    (k : ∀ t x q o, SqT K G t [x, optV o] → Fr K 200 q x G → Best F d q o → rIxT K (.ref t) (.int n) G Q) : tOp (rIxT K) (tDGet (tVar i) (tVar j)) (tC (.int n)) σ G Q := by
  obtain ⟨v, hv, t, x, q, o, rfl, hS, hf, hb⟩ := ht d (Nat.zero_le _) h
  have g := DGet.k (k := .inl ((d : Nat) : Int)) hk
  rw [hv] at g
  exact ⟨_, h2, _, h3, f, .ref t, rfl, g, k t x q o hS hf hb⟩
theorem ok_best_run (T : Txt K mg) : FnOk P w K mg base CX0 4 T.d_best_run.a T.d_best_run.fd ["forest"] (spRunB K) := by
  refine T.d_best_run.F.ok sc_best_run (fun vs H Q E h => ?_) (fun cdv A outer s H vs Q E hr h => ?_)
  · obtain ⟨p, u, F, rfl, _⟩ := h
    rfl
  · obtain ⟨p, u, F, rfl, hu, ok, k⟩ := h
    have hu1 := hu_of hr
    refine ⟨_, (pss_cons (ps_set (i := 1) sc_best_run.nd rfl (Or.inl rfl) (pe_call (ok_best_by_sets T) (hr.mono (by decide)) (by rfl) T.d_best_by_sets.g T.d_best_by_sets.F.kp T.d_best_by_sets.b .nil pass0 (pa_cons (pv 0) pa_nil)))
      (pss_cons (ps_set (i := 2) sc_best_run.nd rfl (Or.inl rfl) (pe_lstN pa_nil))
      (pss_cons (ps_set (i := 3) sc_best_run.nd rfl (Or.inl rfl) pe_int)
      (pss_cons (ps_while PassesOwn.never (pt_cmpR op_notN (pe_ix ix_tup (pe_dget hu1 (pv 1) (pv 3) (fun _ _ => rfl)) pe_int (fun _ _ => rfl)) pe_non (nomark _)) (pss_cons (ps_set (i := 4) sc_best_run.nd rfl (Or.inl rfl) (pe_ix ix_tup (pe_dget hu1 (pv 1) (pv 3) (fun _ _ => rfl)) pe_int (fun _ _ => rfl)))
      (pss_cons (ps_expr (pe_bm PySem.F.plainAttrs_list PySem.F.slot_list_append PySem.F.type_list_append mt_append (pv 2) (pa_cons (pv 4) pa_nil)))
      (pss_one (ps_set (i := 3) sc_best_run.nd rfl (Or.inl rfl) (pe_op op_or (pv 3) (pe_op op_shl pe_int (pv 4))))))))
      (pss_one (ps_ret (pe_tup (pa_cons (pe_ix ix_tup (pe_dget hu1 (pv 1) pe_int (fun _ _ => rfl)) pe_int (fun _ _ => rfl)) (pa_cons (pv 2) pa_nil))))))))), ?_⟩
    refine n_seq ?_
    refine ⟨_, rfl, p, u, F, rfl, hu, ok, fun f kvs H1 e1 nf hk tb => ?_⟩
    dsimp only
    refine n_seq ?_
    refine ⟨by show 0 ≤ sizeLine; decide, fun l fl lm => ?_⟩
    dsimp only
    have nl : H l = none := none_ex e1 fl
    have x1 := Ex.new (o := .lst []) fl
    have hk1 := x1 _ _ hk
    have tb1 := tb.ex x1
    have nfl : f ≠ l := ne_of_none hk fl
    refine n_seq ?_
    refine n_c ?_
    dsimp only
    refine n_seq ?_
    have mp : 1 ≤ 2 ^ F.length := Nat.one_le_two_pow
    have l8 := ok.most
    have stay : ∀ {G : Hp}, ExB l (upd H1 l (.lst [])) G → ∀ {zs : List V}, G l = some (.lst zs) → G f = some (.dK kvs) ∧ Tbl K F G kvs 0 (2 ^ F.length - 1) := fun e _ _ => by
      refine ⟨e _ _ nfl hk1, fun d a b => ?_⟩
      obtain ⟨v, h1, h2⟩ := tb1 d a b
      exact ⟨v, h1, h2.tb (tupd_l upd_same) e⟩
    refine while_by (fun σ G => ∃ d pre y4, σ = [some u, some (.ref f), some (.ref l), some (.int ((d : Nat) : Int)), y4] ∧ ExB l (upd H1 l (.lst [])) G ∧ G l = some (.lst (intsV pre)) ∧ Way F pre d)
      (fun σ _ => match σ[3]? with
        | some (some (V.int m)) => 256 - m.toNat
        | _ => 0) ⟨0, [], none, rfl, ExB.refl _ _, upd_same, Way.nil F⟩ ?_ ?_
    · rintro σ G ⟨d, pre, y4, rfl, eb, hl, wy⟩
      obtain ⟨hkG, tbG⟩ := stay eb hl
      have dl := wy.bits
      have ml : 2 ^ F.length ≤ 256 := Nat.pow_le_pow_right (by decide) l8
      refine ep_at (n := 1) rfl rfl hkG tbG (by omega) fun t x q o hS hf hb => ⟨t, _, 1, optV o, rfl, rfl, hS, rfl, rfl, _, rfl, ?_⟩
      have c2 : cntD d F.length ≤ F.length := cnt_le _ _
      cases o with
      | some i =>
        obtain ⟨iok, _⟩ := hb.next ok.nnf
        have il := okD_lt iok
        refine iteT ?_
        refine n_seq ?_
        refine ep_at (n := 1) rfl rfl hkG tbG (by omega) fun t x q o hS hf hb2 => ⟨t, _, 1, optV o, rfl, rfl, hS, rfl, ?_⟩
        cases o with
        | none =>
          exfalso
          obtain ⟨_, f0⟩ := hb2.stop
          have h2 := okD_cnt iok
          have h3 := cnt_le (addD d i) F.length
          have h1 := f0.2
          simp at h1
          omega
        | some i2 =>
        obtain ⟨iok2, _⟩ := hb2.next ok.nnf
        have il2 := okD_lt iok2
        refine n_name ?_
        dsimp only
        refine n_seq ?_
        refine s_app hl (ev_var rfl) (ev_var rfl) (by rw [intsV_len]; have := wy.len; omega) fun H2 e2 => ?_
        refine s_asg (bor_shl d i2 rfl rfl (by omega)) fun H3 e3 => ?_
        dsimp only
        have gt := add_gt (okD_bit iok2)
        refine ⟨⟨addD d i2, pre ++ [i2], _, rfl, (eb.trans (Ex.b e2)).upd.trans (Ex.b e3), ?_, wy.next ok.nnf hb2⟩, ?_⟩
        · refine e3 _ _ ?_
          rw [upd_same]
          unfold intsV
          rw [List.map_append]
          rfl
        · show 256 - (((addD d i2 : Nat) : Int)).toNat < 256 - ((d : Nat) : Int).toNat
          omega
      | none =>
        obtain ⟨rfl, f0⟩ := hb.stop
        refine iteF ?_
        dsimp only
        have full := wy.go [] f0
        rw [List.append_nil] at full
        have we := wy.worth _ _ hb
        have we2 : worthF F pre = bestQ F 0 := by grind
        obtain ⟨v0, hv0, t0, x0, q0, o0, rfl, hS0, hf0, hb0⟩ := tbG 0 (Nat.zero_le _) (Nat.zero_le _)
        have g0 := DGet.k (k := .inl ((0 : Nat) : Int)) hkG
        rw [hv0] at g0
        refine ⟨_, rfl, f, .ref t0, rfl, g0, t0, _, 0, x0, rfl, rfl, hS0, rfl, ?_⟩
        refine ⟨_, rfl, by show 2 ≤ sizeLine; decide, fun t5 ft5 => ?_⟩
        have x5 := Ex.new (o := .tup [x0, .ref l]) ft5
        have eH : Ex H G := (e1.trans (Ex.mutB fl eb))
        have q0e := best_q hb0
        refine k t5 x0 l pre _ (eH.trans x5) (SqT.of upd_same) ?_ nl lm (x5 _ _ hl) full fun l' h' => ?_
        · rw [we2, ← q0e]
          exact hf0.ex x5
        · rw [we2, ← q0e]
          exact hb0.most l' h'
    · rintro σ G Q Q' hq h
      obtain ⟨v, hv, h⟩ := h
      obtain ⟨y, hy, h⟩ := h
      obtain ⟨a, b, h1, h2, a', xs, n', z, h3, h4, h5, h6, h7, b', h8, h9⟩ := h
      exact ⟨v, hv, y, hy, a, b, h1, h2, a', xs, n', z, h3, h4, h5, h6, h7, b', h8, hq _ _ h9⟩
end
/-! ### orders judged -/
def isLst : PyData → Bool
  | .list _ => true
  | _ => false
theorem kit_lst (d : PyData) : kitB (tyName d) "list" = some (isLst d) := by cases d <;> (simp only [tyName, isLst]; decide +kernel)
def seqDs (F : List Fk) : List Nat → List PyData → Bool
  | _, [] => true
  | told, d :: ds => nbB d (F.length : Int) && (okL F told (ival d).toNat && seqDs F (told ++ [(ival d).toNat]) ds)
def seqB (F : List Fk) : PyData → Bool
  | .list ds => decide (ds.length = F.length) && seqDs F [] ds
  | _ => false
def intsD (ns : List Nat) : List PyData := ns.map fun (n : Nat) => .int n
theorem seqDs_ints (F : List Fk) : ∀ (ns told : List Nat), seqDs F told (intsD ns) = seqL F told ns
  | [], _ => rfl
  | n :: ns, told => by
    show (nbB (.int n) (F.length : Int) && (okL F told ((n : Int)).toNat && seqDs F (told ++ [((n : Int)).toNat]) (intsD ns))) = (okL F told n && seqL F (told ++ [n]) ns)
    rw [Int.toNat_natCast, seqDs_ints F ns]
    by_cases h : n < F.length
    · have : nbB (.int n) (F.length : Int) = true := by
        show (true && (decide ((0 : Int) ≤ n) && decide ((n : Int) < F.length))) = true
        rw [decide_eq_true (by omega), decide_eq_true (by omega)]
        rfl
      rw [this, Bool.true_and]
    · have : okL F told n = false := by
        unfold okL
        rw [decide_eq_false h]
        rfl
      rw [this]
      simp
theorem seqB_ints (F : List Fk) (ns : List Nat) : seqB F (.list (intsD ns)) = (decide (ns.length = F.length) && seqL F [] ns) := by
  show (decide ((intsD ns).length = F.length) && seqDs F [] (intsD ns)) = _
  rw [seqDs_ints]
  unfold intsD
  rw [List.length_map]
theorem seqB_no {F : List Fk} {d : PyData} (h : isLst d = false) : seqB F d = false := by
  cases d <;> first | rfl | (simp [isLst] at h)
theorem inV_ints (n : Nat) : ∀ ns : List Nat, inV (.int ((n : Nat) : Int)) (intsV ns) = decide (n ∈ ns)
  | [] => rfl
  | m :: ns => by
    have ih := inV_ints n ns
    unfold inV intsV at ih ⊢
    rw [List.map_cons, List.any_cons, ih, Bool.eq_iff_iff, Bool.or_eq_true, decide_eq_true_iff, decide_eq_true_iff, List.mem_cons]
    refine or_congr ?_ Iff.rfl
    show decide (((m : Nat) : Int) = ((n : Nat) : Int)) = true ↔ n = m
    rw [decide_eq_true_iff]
    omega
theorem flat_ints (ns : List Nat) : (intsV ns).all flatV = true := by
  unfold intsV
  rw [List.all_eq_true]
  intro x hx
  obtain ⟨n, _, rfl⟩ := List.mem_map.mp hx
  rfl
def parsV (F : List Fk) : List V := F.map fun t => optV t.par
section
variable {P : Program} {w : World} {K : PySem.W.Frag} {mg : Str → Option Value} {base : Heap}
def spSeq (K : PySem.W.Frag) : Sp := fun vs H Q _ => ∃ (p a : Addr) (v : V) (F : List Fk) (d : PyData), vs = [.ref a, v] ∧ SqL K H a (parsV F) ∧ Dq K p H v d ∧ F.length ≤ 8 ∧ ∀ H', Ex H H' → Q (.bl (seqB F d)) H'
theorem ok_is_sequence (T : Txt K mg) : FnOk P w K mg base CX0 3 T.d_is_sequence.a T.d_is_sequence.fd ["parents", "value"] (spSeq K) := by
  refine T.d_is_sequence.F.ok sc_is_sequence (fun vs H Q E h => ?_) (fun cdv A outer s H vs Q E hr h => ?_)
  · obtain ⟨p, a, v, F, d, rfl, _⟩ := h
    rfl
  · obtain ⟨p, a, v, F, d, rfl, hS, hd, l8, k⟩ := h
    refine ⟨_, (pss_cons (ps_if (PW.pt (pw_or (pt_not (pt_val (pe_callB call_isi (by rfl) T.n_isinstance (by decide +kernel) (pa_cons (pv 1) (pa_cons (pe_bltn (v := .ty "list") (by rfl) T.n_list (by decide +kernel) rfl) pa_nil))))) (pw_or1 (pt_cmpR op_ne (pe_callB call_len_seq (by rfl) T.n_len (by decide +kernel) (pa_cons (pv 1) pa_nil)) (pe_callB call_len_seq (by rfl) T.n_len (by decide +kernel) (pa_cons (pv 0) pa_nil)) (nomark _))))) (pss_one (ps_ret pe_bl)) pss_nil)
      (pss_cons (ps_set (i := 2) sc_is_sequence.nd rfl (Or.inl rfl) (pe_lst pa_nil))
      (pss_cons (ps_for PassesOwn.never rfl (pi_list (pv 1)) (pg_name (i := 3) sc_is_sequence.nd rfl (Or.inl rfl)) (pss_cons (ps_if (PW.pt (pw_or (pt_not (pt_val (pe_call (ok_is_number_below T) (hr.mono (by decide)) (by rfl) T.d_is_number_below.g T.d_is_number_below.F.kp T.d_is_number_below.b .nil pass0 (pa_cons (pv 3) (pa_cons (pe_callB call_len_seq (by rfl) T.n_len (by decide +kernel) (pa_cons (pv 0) pa_nil)) pa_nil))))) (pw_or1 (pt_cmpR op_in_seq (pv 3) (pv 2) (by rfl))))) (pss_one (ps_ret pe_bl)) pss_nil)
      (pss_cons (ps_if (PW.pt (pw_and (pt_cmpR op_notN (pe_ix ix_list (pv 0) (pv 3) (fun _ _ => rfl)) pe_non (nomark _)) (pw_and1 (pt_cmpR op_notIn_seq (pe_ix ix_list (pv 0) (pv 3) (fun _ _ => rfl)) (pv 2) (by rfl))))) (pss_one (ps_ret pe_bl)) pss_nil)
      (pss_one (ps_expr (pe_bm PySem.F.plainAttrs_list PySem.F.slot_list_append PySem.F.type_list_append mt_append (pv 2) (pa_cons (pv 3) pa_nil)))))))
      (pss_one (ps_ret pe_bl))))), ?_⟩
    have no : seqB F d = false → ∀ H', Ex H H' → Q (.bl false) H' := fun e H' e' => by
      have := k H' e'
      rwa [e] at this
    have pl : (parsV F).length = F.length := List.length_map ..
    cases hi : isLst d with
    | false => exact s_if (b := true) (et_is (et_or (a := true) (b := true) (et_is (et_not (et_B (ev_isi rfl hd (kit_lst d)))) (by rw [hi]; rfl)) fun z => nomatch z) rfl) (fun _ H1 e1 => no (seqB_no hi) H1 e1) (fun z => nomatch z)
    | true =>
    obtain ⟨ds, rfl⟩ : ∃ ds, d = .list ds := by
      cases d with
      | list ds => exact ⟨ds, rfl⟩
      | _ => cases hi
    obtain ⟨b, xs, rfl, hb, hA⟩ : ∃ b xs, v = .ref b ∧ H b = some (.lst xs) ∧ DqAll K p H xs ds := by
      cases hd with
      | lst _ _ h hs => exact ⟨_, _, rfl, h, hs⟩
    have xl := hA.len
    have lenV : Ev (tCB (fun xs H_1 Q => ∃ p ys, xs = [V.ref p] ∧ (SqL K H_1 p ys ∨ SqT K H_1 p ys) ∧ Q (V.int ys.length) H_1) (tCons (tVar 1) tNil)) [some (.ref a), some (.ref b), none, none] H (.int (ds.length : Int)) := fun H1 e Q k => ⟨_, rfl, b, xs, rfl, .inl (SqL.of (e _ _ hb)), by rw [xl]; exact k H1 (Ex.refl _)⟩
    have lenP : Ev (tCB (fun xs H_1 Q => ∃ p ys, xs = [V.ref p] ∧ (SqL K H_1 p ys ∨ SqT K H_1 p ys) ∧ Q (V.int ys.length) H_1) (tCons (tVar 0) tNil)) [some (.ref a), some (.ref b), none, none] H (.int (F.length : Int)) := fun H1 e Q k => ⟨_, rfl, a, _, rfl, .inl (ex_l e hS), by rw [pl]; exact k H1 (Ex.refl _)⟩
    have c0 : (!decide (V.int (ds.length : Int) = V.int (F.length : Int))) = !decide (ds.length = F.length) := by
      congr 1
      rw [Bool.eq_iff_iff, decide_eq_true_iff, decide_eq_true_iff, V.int.injEq]
      omega
    refine s_if (b := !decide (ds.length = F.length)) (et_is (et_or (a := false) (et_is (et_not (et_B (ev_isi (b := true) rfl hd (kit_lst _)))) rfl) fun _ => et_is (et_test (ev_op lenV lenP (rv_ne rfl))) c0) rfl) (fun hc H1 e1 => ?_) (fun hc H1 e1 => ?_)
    · refine no ?_ H1 e1
      show (_ && _) = _
      rw [notF hc, Bool.false_and]
    have hl := notT hc
    have e : seqB F (.list ds) = seqDs F [] ds := by
      show (_ && _) = _
      rw [hl, Bool.true_and]
    rw [e] at k no
    refine n_next ?_
    refine n_seq ?_
    refine ⟨by show 0 ≤ sizeLine; decide, fun l fl => ?_⟩
    dsimp only
    have nfl : H l = none := none_ex e1 fl
    refine n_seq ?_
    refine ⟨_, rfl, b, rfl, ⟨_, SqL.of ((Ex.new fl) _ _ (e1 _ _ hb))⟩, ?_⟩
    refine for_list (K := K) (a := b) (xs := xs) (fun i σ G => ∃ told y3, σ = [some (.ref a), some (.ref b), some (.ref l), y3] ∧ Ex H G ∧ G l = some (.lst (intsV told)) ∧ told.length = i ∧ seqDs F [] ds = seqDs F told (ds.drop i)) ⟨[], none, rfl, e1.trans (Ex.new fl), upd_same, rfl, rfl⟩ (fun i σ G _ h => by
      obtain ⟨_, _, _, e, _⟩ := h
      exact SqL.of (e _ _ hb)) ?_ ?_
    · rintro i x σ G hx ⟨told, y3, rfl, ex, hT, tl, hq⟩
      have il : i < xs.length := (List.getElem?_eq_some_iff.mp hx).1
      obtain ⟨di, hdi⟩ : ∃ di, ds[i]? = some di := ⟨_, List.getElem?_eq_getElem (by omega)⟩
      obtain ⟨x', hx', qx⟩ := (DqAll.ex ex _ _ hA).get hdi
      rw [hx] at hx'
      cases hx'
      have dd : ds.drop i = di :: ds.drop (i + 1) := by
        rw [List.getElem?_eq_some_iff] at hdi
        obtain ⟨h1, rfl⟩ := hdi
        exact List.drop_eq_getElem_cons h1
      rw [dd] at hq
      have hq' : seqDs F [] ds = (nbB di (F.length : Int) && (okL F told (ival di).toNat && seqDs F (told ++ [(ival di).toNat]) (ds.drop (i + 1)))) := hq
      refine n_name ?_
      dsimp only
      have lenG : Ev (tCB (fun xs H_1 Q => ∃ p ys, xs = [V.ref p] ∧ (SqL K H_1 p ys ∨ SqT K H_1 p ys) ∧ Q (V.int ys.length) H_1) (tCons (tVar 0) tNil)) [some (.ref a), some (.ref b), some (.ref l), some x] G (.int (F.length : Int)) := fun H1 e Q k => ⟨_, rfl, a, _, rfl, .inl (ex_l (ex.trans e) hS), by rw [pl]; exact k H1 (Ex.refl _)⟩
      cases nb : nbB di (F.length : Int) with
      | false =>
        refine n_seq ?_
        refine s_if (b := true) (et_is (et_or (a := true) (b := true) (et_is (et_not (et_B (ev_nbd (ev_var rfl) qx lenG))) (by rw [nb]; rfl)) fun z => nomatch z) rfl) (fun _ H2 e2 => ?_) (fun z => nomatch z)
        exact no (by rw [hq', nb, Bool.false_and]) H2 (ex.trans e2)
      | true =>
      obtain ⟨j, rfl, jl⟩ : ∃ j : Nat, di = .int j ∧ j < F.length := by
        unfold nbB at nb
        simp only [Bool.and_eq_true, decide_eq_true_eq] at nb
        obtain ⟨h1, h2, h3⟩ := nb
        have h4 := (qx.ival h1).2
        exact ⟨(ival di).toNat, by rw [Int.toNat_of_nonneg h2]; exact h4, by omega⟩
      cases qx
      rw [nb, Bool.true_and, show (ival (.int (j : Nat))).toNat = j from rfl] at hq'
      obtain ⟨t, ht⟩ : ∃ t, F[j]? = some t := ⟨_, List.getElem?_eq_getElem jl⟩
      have hpar : (parsV F)[j]? = some (optV t.par) := by
        unfold parsV
        rw [List.getElem?_map, ht]
        rfl
      have okj : okL F told j = (!decide (j ∈ told) && upL t.par told) := by
        unfold okL
        rw [decide_eq_true jl, Bool.true_and, parF_at ht]
      rw [okj] at hq'
      refine n_seq ?_
      refine s_if (b := decide (j ∈ told)) (et_is (et_or (a := false) (b := decide (j ∈ told)) (et_is (et_not (et_B (ev_nbd (p := p) (ev_var rfl) (.int _) lenG))) (by rw [nb]; rfl)) fun _ => fun H1 e Q' k' => by
        refine ⟨_, rfl, _, rfl, l, intsV told, rfl, .inl (SqL.of (e _ _ hT)), rfl, flat_ints told, _, rfl, ?_⟩
        rw [if_neg (by decide), inV_ints]
        exact k' H1 (Ex.refl _)) rfl) (fun hc H2 e2 => ?_) (fun hc H2 e2 => ?_)
      · exact no (by rw [hq', hc]; rfl) H2 (ex.trans e2)
      rw [hc] at hq'
      have hq2 : seqDs F [] ds = (upL t.par told && seqDs F (told ++ [j]) (ds.drop (i + 1))) := hq'
      refine n_next ?_
      dsimp only
      refine n_seq ?_
      have ixp : ∀ {H1 : Hp}, Ex H2 H1 → ∀ {Q' : VK}, Q' (optV t.par) H1 → tOp (rIxL K) (tVar 0) (tVar 3) [some (.ref a), some (.ref b), some (.ref l), some (.int (j : Nat))] H1 Q' := fun e Q' q => ⟨_, rfl, _, rfl, a, _, (j : Nat), _, rfl, rfl, ex_l ((ex.trans e2).trans e) hS, atI_nat hpar, q⟩
      have tst : EvT (tAnd (tTest (tOp (fun x y H Q => y = V.non ∧ Q (V.bl !decide (x = V.non)) H) (tOp (rIxL K) (tVar 0) (tVar 3)) (tC V.non))) (tTest (tOp (rIn K true) (tOp (rIxL K) (tVar 0) (tVar 3)) (tVar 2)))) [some (.ref a), some (.ref b), some (.ref l), some (.int (j : Nat))] H2 (!upL t.par told) := by
        cases hp : t.par with
        | none =>
          refine et_is (et_and (a := false) (b := false) (fun H1 e Q' k' => ?_) fun z => nomatch z) rfl
          refine ixp e ?_
          rw [hp]
          exact ⟨rfl, _, rfl, k' H1 (Ex.refl _)⟩
        | some q =>
          refine et_is (et_and (a := true) (b := !decide (q ∈ told)) (fun H1 e Q' k' => ?_) fun _ => fun H1 e Q' k' => ?_) rfl
          · refine ixp e ?_
            rw [hp]
            exact ⟨rfl, _, rfl, k' H1 (Ex.refl _)⟩
          · refine ixp e ?_
            rw [hp]
            refine ⟨_, rfl, l, intsV told, rfl, .inl (SqL.of (e _ _ (e2 _ _ hT))), rfl, flat_ints told, _, rfl, ?_⟩
            rw [if_pos rfl, show optV (some q) = .int ((q : Nat) : Int) from rfl, inV_ints]
            exact k' H1 (Ex.refl _)
      refine s_if tst (fun hu H3 e3 => ?_) (fun hu H3 e3 => ?_)
      · exact no (by rw [hq2, notF hu]; rfl) H3 ((ex.trans e2).trans e3)
      refine n_next ?_
      have hT3 := e3 _ _ (e2 _ _ hT)
      refine s_app hT3 (ev_var rfl) (ev_var rfl) (by have := of_decide_eq_true hl; rw [intsV_len]; omega) fun H4 e4 => ?_
      refine ⟨told ++ [j], _, rfl, Ex.mut (((ex.trans e2).trans e3).trans e4) nfl, ?_, by rw [List.length_append, tl]; rfl, by rw [hq2, notT hu, Bool.true_and]⟩
      rw [upd_same]
      unfold intsV
      rw [List.map_append]
      rfl
    · rintro σ G ⟨told, y3, rfl, ex, hT, tl, hq⟩
      rw [xl, List.drop_length] at hq
      have := k G ex
      rw [hq] at this
      exact this
end
/-! ### groups' terms, costs, orders -/
def restD (q : Rat) : PyData := .tuple [frd (1 - q), .tuple [.str "end"]]
def tmG (F : List Fk) : List Nat → PyData
  | [] => .none
  | [i] => .tuple [.str "step", frd (payF F i), .tuple [restD (facF F i)]]
  | i :: j :: r => .tuple [.str "step", frd (payF F i), .tuple [.tuple [frd (facF F i), tmG F (j :: r)], restD (facF F i)]]
theorem flat_tmG (F : List Fk) : ∀ l : List Nat, flatD (tmG F l) = true
  | [] => rfl
  | [i] => rfl
  | i :: j :: r => by
    have ih := flat_tmG F (j :: r)
    simp only [tmG, flatD, flatDA, ih, flat_frd, restD, Bool.and_self, Bool.true_and]
structure GrpOk (F : List Fk) : Prop extends FOk F where
  four : F.length ≤ 4
  gb : groupB (gsD F) = true
section
variable {P : Program} {w : World} {K : PySem.W.Frag} {mg : Str → Option Value} {base : Heap}
def spTG (K : PySem.W.Frag) : Sp := fun vs H Q _ => ∃ (p : Addr) (u : V) (l : Addr) (F : List Fk) (ns : List Nat), vs = [u, .ref l] ∧ Dq K p H u (gsD F) ∧ FOk F ∧ SqL K H l (intsV ns) ∧ (∀ n ∈ ns, n < F.length) ∧ ns.length ≤ 8 ∧ ∀ x H', Ex H H' → Dq K p H' x (tmG F ns) → Q x H'
theorem ok_term_of_group (T : Txt K mg) : FnOk P w K mg base CX0 3 T.d_term_of_group.a T.d_term_of_group.fd ["group", "order"] (spTG K) := by
  refine T.d_term_of_group.F.ok sc_term_of_group (fun vs H Q E h => ?_) (fun cdv A outer s H vs Q E hr h => ?_)
  · obtain ⟨p, u, l, F, ns, rfl, _⟩ := h
    rfl
  · obtain ⟨p, u, l, F, ns, rfl, hu, ok, hS, hn, l8, k⟩ := h
    refine ⟨_, (pss_cons (ps_set (i := 2) sc_term_of_group.nd rfl (Or.inl rfl) pe_non)
      (pss_cons (ps_for PassesOwn.never rfl (pi_list (pe_revL (pv 1))) (pg_name (i := 3) sc_term_of_group.nd rfl (Or.inl rfl)) (pss_cons (ps_asg (pe_ix ix_tup (pv 0) (pv 3) (fun _ _ => rfl)) (pg_tup (by rfl) (pgs_cons (pg_name (i := 4) sc_term_of_group.nd rfl (Or.inl rfl)) (pgs_cons (pg_name (i := 5) sc_term_of_group.nd rfl (Or.inl rfl)) (pgs_cons (pg_name (i := 6) sc_term_of_group.nd rfl (Or.inl rfl)) pgs_nil)))))
      (pss_cons (ps_set (i := 7) sc_term_of_group.nd rfl (Or.inl rfl) (pe_tup (pa_cons (pe_tup (pa_cons (pe_call (ok_subtract T) (hr.mono (by decide)) (by rfl) T.d_subtract.g T.d_subtract.F.kp T.d_subtract.b .nil pass0 (pa_cons (pe_glob (v := .ref T.a_ONE) rfl T.c_ONE rfl) (pa_cons (pv 5) pa_nil))) (pa_cons (pe_glob (v := .ref T.a_END) rfl T.c_END rfl) pa_nil))) pa_nil)))
      (pss_cons (ps_if (pt_cmpR op_notN (pv 2) pe_non (nomark _)) (pss_one (ps_set (i := 7) sc_term_of_group.nd rfl (Or.inl rfl) (pe_op op_catT (pe_tup (pa_cons (pe_tup (pa_cons (pv 5) (pa_cons (pv 2) pa_nil))) pa_nil)) (pv 7)))) pss_nil)
      (pss_one (ps_set (i := 2) sc_term_of_group.nd rfl (Or.inl rfl) (pe_tup (pa_cons pe_str (pa_cons (pe_call (ok_negative T) (hr.mono (by decide)) (by rfl) T.d_negative.g T.d_negative.F.kp T.d_negative.b .nil pass0 (pa_cons (pv 4) pa_nil)) (pa_cons (pv 7) pa_nil))))))))))
      (pss_one (ps_ret (pv 2))))), ?_⟩
    refine n_seq ?_
    refine n_c ?_
    dsimp only
    refine n_seq ?_
    refine ⟨_, rfl, l, _, rfl, hS, fun q fq => ?_⟩
    have x0 := Ex.new (o := .lst (intsV ns).reverse) fq
    have hq : (upd H q (.lst (intsV ns).reverse)) q = some (.lst (intsV ns).reverse) := upd_same
    generalize upd H q (.lst (intsV ns).reverse) = H0 at x0 hq
    have rl : (intsV ns).reverse.length = ns.length := by rw [List.length_reverse, intsV_len]
    refine ⟨q, rfl, ⟨_, SqL.of hq⟩, ?_⟩
    refine for_list (K := K) (a := q) (xs := (intsV ns).reverse) (fun i σ G => Ex H0 G ∧ ∃ z y3 y4 y5 y6 y7, σ = [some u, some (.ref l), some z, y3, y4, y5, y6, y7] ∧ Dq K p G z (tmG F (ns.drop (ns.length - i)))) ⟨Ex.refl _, _, none, none, none, none, none, rfl, ?_⟩ (fun i σ G _ h => SqL.of (h.1 _ _ hq)) ?_ ?_
    · rw [Nat.sub_zero, List.drop_length]
      exact .non
    · rintro i x σ G hx ⟨ex, z, y3, y4, y5, y6, y7, rfl, qz⟩
      have il : i < ns.length := by
        have := (List.getElem?_eq_some_iff.mp hx).1
        rwa [rl] at this
      have hx2 : (intsV ns)[ns.length - 1 - i]? = some x := by
        rw [List.getElem?_reverse (by rw [intsV_len]; exact il), intsV_len] at hx
        exact hx
      obtain ⟨n, hn1, rfl⟩ := intsV_at hx2
      have nl := hn n (List.mem_of_getElem? hn1)
      have dd : ns.drop (ns.length - (i + 1)) = n :: ns.drop (ns.length - i) := by
        have e1 : ns.length - (i + 1) = ns.length - 1 - i := by omega
        have e2 : ns.length - i = ns.length - 1 - i + 1 := by omega
        rw [e1, e2]
        rw [List.getElem?_eq_some_iff] at hn1
        obtain ⟨h1, rfl⟩ := hn1
        exact List.drop_eq_getElem_cons h1
      refine n_name ?_
      dsimp only
      refine n_seq ?_
      obtain ⟨a, xs, rfl, hSu, hA⟩ := (Dq.ex (x0.trans ex) _ _ hu).seq
      have nlx : n < xs.length := by rw [hA.len, List.length_map]; exact nl
      have hxn := List.getElem?_eq_getElem nlx
      obtain ⟨t2, ht2, qt⟩ := hA.at_ hxn
      obtain ⟨b, x0', x1', eb, hb2, q0, q1⟩ := qt.g3
      refine ⟨_, rfl, _, rfl, a, xs, (n : Int), _, rfl, rfl, hSu, atI_nat hxn, ?_⟩
      rw [eb]
      refine ⟨b, _, rfl, hb2, rfl, _, _, rfl, _, _, rfl, _, _, rfl, rfl, ?_⟩
      dsimp only
      have bt := ok.fac t2 (List.mem_of_getElem? ht2)
      have bp := (ok.pay t2 (List.mem_of_getElem? ht2)).neg
      have ep := payF_at ht2
      have ef := facF_at ht2
      have f1 : ∀ G, Fr K 2 1 (.ref T.a_ONE) G := fun G => ⟨_, rfl, .inr T.k_ONE, by decide, by decide⟩
      have dE : ∀ G, Dq K p G (.ref T.a_END) (.tuple [.str "end"]) := fun G => .tup (.inr T.k_END) (.cons (.str _) .nil)
      refine n_seq ?_
      refine s_asgP (ed_tup (K := K) (p := p) (ds := [restD t2.fac]) (eds_cons (ed_tup (ds := [frd (1 - t2.fac), .tuple [.str "end"]]) (eds_cons (ed_fr (b := 13) (ep_2 (K := K) (n := 13) (fun H1 e1 Q' k' => k' _ H1 (Ex.refl _) (f1 H1)) (ep_var rfl (q1.frq bt)) trivial (by omega) rfl)) (eds_cons (fun H1 e1 Q' k' => k' _ H1 (Ex.refl _) (dE H1)) eds_nil)) (by show 2 ≤ 1000; decide)) eds_nil) (by show 1 ≤ 1000; decide)) fun w7 G2 e2 q7 => ?_
      dsimp only
      have qz2 := Dq.ex e2 _ _ qz
      have q12 := Dq.ex e2 _ _ q1
      have fin : ∀ (w7 : V) (G3 : Hp) (d7 : PyData), Ex G2 G3 → Dq K p G3 w7 d7 → tmG F (n :: ns.drop (ns.length - i)) = .tuple [.str "step", frd (payF F n), d7] →
          tAsg (tTup (tCons (tC (V.str (Str.ofString "step"))) (tCons (tCall (spNeg K) [] E0 (tCons (tVar 4) tNil)) (tCons (tVar 7) tNil)))) (gName 2) { nx := fun σ G => Ex H0 G ∧ ∃ z y3 y4 y5 y6 y7, σ = [some (V.ref a), some (V.ref l), some z, y3, y4, y5, y6, y7] ∧ Dq K p G z (tmG F (List.drop (ns.length - (i + 1)) ns)), rt := Q, bk := tRet (tVar 2) { nx := fun x H' => Q V.non H', rt := Q }, ct := fun σ G => Ex H0 G ∧ ∃ z y3 y4 y5 y6 y7, σ = [some (V.ref a), some (V.ref l), some z, y3, y4, y5, y6, y7] ∧ Dq K p G z (tmG F (List.drop (ns.length - (i + 1)) ns)) }
            [some (.ref a), some (.ref l), some z, some (.int (n : Nat)), some x0', some x1', some (optV t2.par), some w7] G3 := fun w7 G3 d7 e3 q7 he => by
        have ng : ∀ {σ : L2.St}, σ[4]? = some (some x0') → EvD K p (tCall (spNeg K) [] E0 (tCons (tVar 4) tNil)) σ G3 (frd t2.pay) := fun h1 H1 e1 Q' k' => ⟨x0', h1, x0', 10, -t2.pay, rfl, (q0.frq bp).ex ((e2.trans e3).trans e1), fun z H2 e2 f => k' z H2 e2 (by rw [Rat.neg_neg] at f; exact f.dq)⟩
        refine s_asgP (ed_tup (K := K) (p := p) (ds := [.str "step", frd t2.pay, d7]) (eds_cons ed_str (eds_cons (ng rfl) (eds_cons (ed_var rfl q7) eds_nil))) (by show 3 ≤ 1000; decide)) fun w2 G4 e4 q2 => ?_
        refine ⟨((ex.trans e2).trans e3).trans e4, w2, _, _, _, _, _, rfl, ?_⟩
        rw [dd, he, ep]
        exact q2
      refine n_seq ?_
      cases hr' : ns.drop (ns.length - i) with
      | nil =>
        rw [hr'] at qz2 fin
        refine s_if (b := false) (et_is (et_test (ev_notN rfl qz2)) rfl) (fun z => nomatch z) (fun _ G3 e3 => ?_)
        refine n_next ?_
        exact fin w7 G3 _ e3 (Dq.ex e3 _ _ q7) (by show PyData.tuple _ = _; rw [ef])
      | cons j r =>
        rw [hr'] at qz2 fin
        have nn : isNon (tmG F (j :: r)) = false := by cases r <;> rfl
        refine s_if (b := true) (et_is (et_test (ev_notN rfl qz2)) (by rw [nn]; rfl)) (fun _ G3 e3 => ?_) (fun z => nomatch z)
        have ev8 : EvD K p (tTup (tCons (tTup (tCons (tVar 5) (tCons (tVar 2) tNil))) tNil)) [some (.ref a), some (.ref l), some z, some (.int (n : Nat)), some x0', some x1', some (optV t2.par), some w7] G3 (.tuple [.tuple [frd t2.fac, tmG F (j :: r)]]) := ed_tup (eds_cons (ed_tup (eds_cons (ed_var (i := 5) (v := x1') rfl (Dq.ex e3 _ _ q12)) (eds_cons (ed_var (i := 2) (v := z) rfl (Dq.ex e3 _ _ qz2)) eds_nil)) (by show 2 ≤ 1000; decide)) eds_nil) (by show 1 ≤ 1000; decide)
        refine (show tOp (rCatT K) (tTup (tCons (tTup (tCons (tVar 5) (tCons (tVar 2) tNil))) tNil)) (tVar 7) _ G3 _ from ?_)
        refine (show tTup (tCons (tTup (tCons (tVar 5) (tCons (tVar 2) tNil))) tNil) _ G3 _ from ?_)
        refine ev8 G3 (Ex.refl _) _ fun w8 G4 e4 q8 => ?_
        obtain ⟨a8, xs8, rfl, hS8, hA8⟩ := q8.seq
        obtain ⟨a7, xs7, rfl, hS7, hA7⟩ := (Dq.ex (e3.trans e4) _ _ q7).seq
        have l1 := hA8.len
        have l2 := hA7.len
        refine ⟨_, rfl, a8, a7, xs8, xs7, rfl, rfl, hS8, hS7, (fun z => by rw [z] at l1; cases l1), by rw [l1, l2]; show 1 + 1 ≤ sizeLine; decide, (fun z => by rw [z] at l2; cases l2), fun _ t9 f9 => ?_⟩
        dsimp only
        have x9 := Ex.new (o := .tup (xs8 ++ xs7)) f9
        exact fin (.ref t9) _ _ ((e3.trans e4).trans x9) (.tup (SqT.of upd_same) ((DqAll.ex x9 _ _ hA8).append (DqAll.ex x9 _ _ hA7))) (by show PyData.tuple _ = _; rw [ef]; rfl)
    · rintro σ G ⟨ex, z, y3, y4, y5, y6, y7, rfl, qz⟩
      rw [rl, Nat.sub_self, List.drop_zero] at qz
      exact ⟨_, rfl, k z G (x0.trans ex) qz⟩
end
/-! ### groups: orders judged, costs, terms, best orders -/
def Rco (K : PySem.W.Frag) (F : List Fk) (ns : List Nat) (x : V) (H : Hp) : Prop := Fr K 200 (-worthF F ns) x H
def Rte (K : PySem.W.Frag) (F : List Fk) (ns : List Nat) (x : V) (H : Hp) : Prop := ∀ p, Dq K p H x (tmG F ns)
section
variable {P : Program} {w : World} {K : PySem.W.Frag} {mg : Str → Option Value} {base : Heap}
def spGO (K : PySem.W.Frag) (Ts : List Addr) (C : Addr) : Sp := fun vs H Q E => ∃ (p : Addr) (u v : V) (d e : PyData), vs = [u, v] ∧ Dq K p H u d ∧ Dq K p H v e ∧ TBs Ts H ∧
  ((groupB d = false ∧ ∀ H', ExT H H' → TBs Ts H' → Er C u H' E) ∨ ∃ F, d = gsD F ∧ GrpOk F ∧ ∀ H', ExT H H' → TBs Ts H' → Q (.bl (seqB F e)) H')
theorem ok_is_group_order (T : Txt K mg) (tb : GxR.TabB base mg T.c_is_group T.P_is_group) : FnOk P w K mg base (L2.CX P w) 8 T.d_is_group_order.a T.d_is_group_order.fd ["group", "value"] (spGO K [T.P_is_group] T.E_BadGroup.C) := by
  refine T.d_is_group_order.F.okX sc_is_group_order (fun vs H Q E h => ?_) (fun cdv A outer s H vs Q E hr h => ?_)
  · obtain ⟨p, u, v, d, e, rfl, _⟩ := h
    rfl
  · obtain ⟨p, u, v, d, e, rfl, hu, hv, ht, hc⟩ := h
    refine ⟨_, (pss_cons (ps_expr (pe_call (ok_require_group T tb) (hr.mono (by decide)) (by rfl) T.d_require_group.g T.d_require_group.F.kp T.d_require_group.b .nil (passes_call (takes_of rfl rfl rfl rfl) fun _ _ _ _ h => h) (pa_cons (pv 0) pa_nil)))
      (pss_one (ps_ret (pe_call (ok_is_sequence T) (hr.mono (by decide)) (by rfl) T.d_is_sequence.g T.d_is_sequence.F.kp T.d_is_sequence.b .nil pass0 (pa_cons (pe_lc (own := [("_", 2), ("guard", 3)]) (g := gTup K 3 (gCons (gName 2) (gCons (gName 2) (gCons (gName 3) gNil)))) (tt := tYes) rfl sc_is_group_order.nd (pi_tup (pv 0)) (blkOk_by (own := [("_", 2), ("guard", 3)]) (N := n_is_group_order) (sc := defScope s_is_group_order) (by decide +kernel)) (fun _ _ _ _ _ => (pg_tup rfl (pgs_cons (pg_name (i := 2) sc_is_group_order.nd rfl (Or.inl rfl)) (pgs_cons (pg_name (i := 2) sc_is_group_order.nd rfl (Or.inl rfl)) (pgs_cons (pg_name (i := 3) sc_is_group_order.nd rfl (Or.inl rfl)) pgs_nil))))) (fun _ _ _ _ _ => pts_nil) (fun _ _ _ _ _ => (pv 3))) (pa_cons (pv 1) pa_nil)))))), ?_⟩
    refine n_seq ?_
    rcases hc with ⟨h1, k1⟩ | ⟨F, rfl, ok, k⟩
    · exact ⟨_, rfl, p, u, d, rfl, hu, ht, fun _ H1 e1 t1 => k1 H1 e1 t1, (fun z => by rw [h1] at z; cases z)⟩
    refine ⟨_, rfl, p, u, _, rfl, hu, ht, (fun z => by rw [ok.gb] at z; cases z), fun _ H1 e1 t1 => ?_⟩
    have hu1 := Dq.xt e1 _ _ hu
    have hv1 := Dq.xt e1 _ _ hv
    obtain ⟨a, xs, rfl, hS, hA⟩ := hu1.seq
    have xl : xs.length = F.length := by rw [hA.len, List.length_map]
    have l8 := ok.most
    refine ⟨_, rfl, a, rfl, ⟨_, hS⟩, fun D nD => ?_⟩
    refine lc_tup (K := K) (a := a) (xs := xs) (fun i G => Ex H1 G ∧ G D = some (.lst (parsV (F.take i)))) ⟨Ex.new nD, upd_same⟩ (fun i G _ h => ex_t h.1 hS) ?_ ?_
    · rintro i x G hx ⟨ex, hz⟩
      have il : i < xs.length := (List.getElem?_eq_some_iff.mp hx).1
      obtain ⟨t, hti, qt⟩ := (DqAll.ex ex _ _ hA).at_ hx
      obtain ⟨b, x0, x1, rfl, hb, q0, q1⟩ := qt.g3
      refine ⟨b, _, rfl, hb, rfl, _, _, rfl, _, _, rfl, _, _, rfl, rfl, rfl, ?_⟩
      refine yes_of ?_
      rw [if_pos rfl]
      refine ⟨_, rfl, _, hz, small1000 (by unfold parsV; rw [List.length_map, List.length_take]; omega), Ex.mut ex nD, ?_⟩
      rw [upd_same, List.take_succ, hti]
      unfold parsV
      rw [List.map_append]
      rfl
    · rintro G ⟨ex, hz⟩
      rw [xl, List.take_of_length_le (Nat.le_refl _)] at hz
      refine ⟨_, rfl, p, D, v, F, e, rfl, SqL.of hz, Dq.ex ex _ _ hv1, l8, fun H' e' => ?_⟩
      exact k H' (e1.trans (Ex.t (ex.trans e'))) (t1.ex (ex.trans e'))
def spRGO (K : PySem.W.Frag) (Ts : List Addr) (C C2 : Addr) : Sp := fun vs H Q E => ∃ (p : Addr) (u v : V) (d e : PyData), vs = [u, v] ∧ Dq K p H u d ∧ Dq K p H v e ∧ TBs Ts H ∧
  ((groupB d = false ∧ ∀ H', ExT H H' → TBs Ts H' → Er C u H' E) ∨ ∃ F, d = gsD F ∧ GrpOk F ∧ ((seqB F e = false ∧ ∀ H', ExT H H' → TBs Ts H' → Er C2 v H' E) ∨ (seqB F e = true ∧ ∀ H', ExT H H' → TBs Ts H' → Q .non H')))
theorem ok_require_group_and_order (T : Txt K mg) (tb : GxR.TabB base mg T.c_is_group T.P_is_group) : FnOk P w K mg base (L2.CX P w) 9 T.d_require_group_and_order.a T.d_require_group_and_order.fd ["group", "order"] (spRGO K [T.P_is_group] T.E_BadGroup.C T.E_BadGroupOrder.C) := by
  refine T.d_require_group_and_order.F.okX sc_require_group_and_order (fun vs H Q E h => ?_) (fun cdv A outer s H vs Q E hr h => ?_)
  · obtain ⟨p, u, v, d, e, rfl, _⟩ := h
    rfl
  · obtain ⟨p, u, v, d, e, rfl, hu, hv, ht, hc⟩ := h
    refine ⟨_, (pss_one (ps_if (pt_not (pt_val (pe_call (ok_is_group_order T tb) (hr.mono (by decide)) (by rfl) T.d_is_group_order.g T.d_is_group_order.F.kp T.d_is_group_order.b .nil (passes_call (takes_of rfl rfl rfl rfl) fun _ _ _ _ h => h) (pa_cons (pv 0) (pa_cons (pv 1) pa_nil))))) (pss_one (ps_raise rfl (takes_of rfl rfl rfl rfl) (pmk_oex T.E_BadGroupOrder.x.oex T.E_BadGroupOrder.x.i T.E_BadGroupOrder.x.t (ok_i_BadGroupOrder T) (hr.mono (by decide)) T.E_BadGroupOrder.b .nil pass0 (by rfl) T.E_BadGroupOrder.g (pa_cons (pv 1) pa_nil)))) pss_nil)), ?_⟩
    rcases hc with ⟨h1, k1⟩ | ⟨F, rfl, ok, hc⟩
    · exact ⟨_, rfl, _, rfl, p, u, v, d, e, rfl, hu, hv, ht, .inl ⟨h1, k1⟩⟩
    refine ⟨_, rfl, _, rfl, p, u, v, _, e, rfl, hu, hv, ht, .inr ⟨F, rfl, ok, fun H1 e1 t1 => ⟨_, rfl, ?_⟩⟩⟩
    rcases hc with ⟨hs, k1⟩ | ⟨hs, k1⟩
    · rw [hs]
      refine iteT ?_
      exact rd_raise rfl (k1 H1 e1 t1)
    · rw [hs]
      refine iteF ?_
      exact n_next (k1 H1 e1 t1)
end
/-- an order, as data -/
theorem seqB_order {F : List Fk} {d : PyData} (h : seqB F d = true) : ∃ ns : List Nat, d = .list (intsD ns) ∧ ns.length = F.length ∧ seqL F [] ns = true := by
  cases d with
  | list ds =>
    have h' : (decide (ds.length = F.length) && seqDs F [] ds) = true := h
    rw [Bool.and_eq_true, decide_eq_true_iff] at h'
    have go : ∀ (ds : List PyData) (told : List Nat), seqDs F told ds = true → ∃ ns : List Nat, ds = intsD ns := by
      intro ds
      induction ds with
      | nil => exact fun _ _ => ⟨[], rfl⟩
      | cons d ds ih =>
        intro told h
        simp only [seqDs, Bool.and_eq_true] at h
        obtain ⟨ns, rfl⟩ := ih _ h.2.2
        have hb := h.1
        unfold nbB at hb
        simp only [Bool.and_eq_true, decide_eq_true_eq] at hb
        refine ⟨(ival d).toNat :: ns, ?_⟩
        show d :: intsD ns = .int (((ival d).toNat : Nat) : Int) :: intsD ns
        rw [Int.toNat_of_nonneg hb.2.1]
        congr 1
        cases d with
        | int n => rfl
        | _ => simp [isWh] at hb
    obtain ⟨ns, rfl⟩ := go ds [] h'.2
    refine ⟨ns, rfl, ?_, ?_⟩
    · have := h'.1
      unfold intsD at this
      rwa [List.length_map] at this
    · rw [← seqDs_ints]
      exact h'.2
  | _ => cases h
theorem ints_of {K : PySem.W.Frag} {p : Addr} {H : Hp} : ∀ {vs : List V} {ns : List Nat}, DqAll K p H vs (intsD ns) → vs = intsV ns
  | [], [], _ => rfl
  | v :: vs, n :: ns, h => by
    have h' : DqAll K p H (v :: vs) (.int (n : Nat) :: intsD ns) := h
    cases h' with
    | cons h hs =>
      cases h
      rw [ints_of hs]
      rfl
  | [], n :: ns, h => by
    have h' : DqAll K p H [] (.int (n : Nat) :: intsD ns) := h
    cases h'
  | v :: vs, [], h => by
    have h' : DqAll K p H (v :: vs) [] := h
    cases h'
theorem ord_v {K : PySem.W.Frag} {p : Addr} {H : Hp} {v : V} {ns : List Nat} (h : Dq K p H v (.list (intsD ns))) : ∃ l, v = .ref l ∧ H l = some (.lst (intsV ns)) := by
  cases h with
  | lst _ _ h hs => exact ⟨_, rfl, by rw [h, ints_of hs]⟩
section
variable {P : Program} {w : World} {K : PySem.W.Frag} {mg : Str → Option Value} {base : Heap}
def spGC (K : PySem.W.Frag) (Ts : List Addr) (C C2 : Addr) (R : List Fk → List Nat → V → Hp → Prop) : Sp := fun vs H Q E => ∃ (p : Addr) (u v : V) (d e : PyData), vs = [u, v] ∧ Dq K p H u d ∧ Dq K p H v e ∧ TBs Ts H ∧
  ((groupB d = false ∧ ∀ H', ExT H H' → TBs Ts H' → Er C u H' E) ∨ ∃ F, d = gsD F ∧ GrpOk F ∧ ((seqB F e = false ∧ ∀ H', ExT H H' → TBs Ts H' → Er C2 v H' E) ∨ ∃ ns, e = .list (intsD ns) ∧ seqB F e = true ∧ ∀ x H', ExT H H' → TBs Ts H' → R F ns x H' → Q x H'))
theorem ok_group_cost (T : Txt K mg) (tb : GxR.TabB base mg T.c_is_group T.P_is_group) : FnOk P w K mg base (L2.CX P w) 10 T.d_group_cost.a T.d_group_cost.fd ["group", "order"] (spGC K [T.P_is_group] T.E_BadGroup.C T.E_BadGroupOrder.C (Rco K)) := by
  refine T.d_group_cost.F.okX sc_group_cost (fun vs H Q E h => ?_) (fun cdv A outer s H vs Q E hr h => ?_)
  · obtain ⟨p, u, v, d, e, rfl, _⟩ := h
    rfl
  · obtain ⟨p, u, v, d, e, rfl, hu, hv, ht, hc⟩ := h
    refine ⟨_, (pss_cons (ps_expr (pe_call (ok_require_group_and_order T tb) (hr.mono (by decide)) (by rfl) T.d_require_group_and_order.g T.d_require_group_and_order.F.kp T.d_require_group_and_order.b .nil (passes_call (takes_of rfl rfl rfl rfl) fun _ _ _ _ h => h) (pa_cons (pv 0) (pa_cons (pv 1) pa_nil))))
      (pss_one (ps_ret (pe_call (ok_negative T) (hr.mono (by decide)) (by rfl) T.d_negative.g T.d_negative.F.kp T.d_negative.b .nil pass0 (pa_cons (pe_ix ix_tup (pe_call (ok_run_of T) (hr.mono (by decide)) (by rfl) T.d_run_of.g T.d_run_of.F.kp T.d_run_of.b .nil pass0 (pa_cons (pe_call (ok_as_forest T) (hr.mono (by decide)) (by rfl) T.d_as_forest.g T.d_as_forest.F.kp T.d_as_forest.b .nil pass0 (pa_cons (pv 0) pa_nil)) (pa_cons (pv 1) pa_nil))) pe_int (fun _ _ => rfl)) pa_nil))))), ?_⟩
    refine n_seq ?_
    rcases hc with ⟨h1, k1⟩ | ⟨F, rfl, ok, hc⟩
    · exact ⟨_, rfl, _, rfl, p, u, v, d, e, rfl, hu, hv, ht, .inl ⟨h1, k1⟩⟩
    rcases hc with ⟨hs, k1⟩ | ⟨ns, rfl, hs, k⟩
    · exact ⟨_, rfl, _, rfl, p, u, v, _, e, rfl, hu, hv, ht, .inr ⟨F, rfl, ok, .inl ⟨hs, k1⟩⟩⟩
    refine ⟨_, rfl, _, rfl, p, u, v, _, _, rfl, hu, hv, ht, .inr ⟨F, rfl, ok, .inr ⟨hs, fun H1 e1 t1 => ?_⟩⟩⟩
    obtain ⟨nl, sq⟩ : ns.length = F.length ∧ seqL F [] ns = true := by
      rw [seqB_ints, Bool.and_eq_true, decide_eq_true_iff] at hs
      exact hs
    have l8 := ok.most
    obtain ⟨l, rfl, hl⟩ := ord_v (Dq.xt e1 _ _ hv)
    refine ⟨_, rfl, p, u, F, rfl, Dq.xt e1 _ _ hu, ok.toFOk, fun z H2 e2 qz => ?_⟩
    refine ⟨_, rfl, p, z, l, F, ns, rfl, qz, ok.toFOk, SqL.of (e2 _ _ hl), seqL_lt F ns [] sq, by omega, fun t x y H3 e3 hS f1 f2 => ?_⟩
    refine ⟨t, _, 0, x, rfl, rfl, hS, rfl, x, 178, worthF F ns, rfl, f1.mono (by omega), fun z' H4 e4 f4 => ?_⟩
    exact k z' H4 (e1.trans (Ex.t ((e2.trans e3).trans e4))) (t1.ex ((e2.trans e3).trans e4)) (f4.mono (by omega))
theorem ok_group_term (T : Txt K mg) (tb : GxR.TabB base mg T.c_is_group T.P_is_group) : FnOk P w K mg base (L2.CX P w) 10 T.d_group_term.a T.d_group_term.fd ["group", "order"] (spGC K [T.P_is_group] T.E_BadGroup.C T.E_BadGroupOrder.C (Rte K)) := by
  refine T.d_group_term.F.okX sc_group_term (fun vs H Q E h => ?_) (fun cdv A outer s H vs Q E hr h => ?_)
  · obtain ⟨p, u, v, d, e, rfl, _⟩ := h
    rfl
  · obtain ⟨p, u, v, d, e, rfl, hu, hv, ht, hc⟩ := h
    refine ⟨_, (pss_cons (ps_expr (pe_call (ok_require_group_and_order T tb) (hr.mono (by decide)) (by rfl) T.d_require_group_and_order.g T.d_require_group_and_order.F.kp T.d_require_group_and_order.b .nil (passes_call (takes_of rfl rfl rfl rfl) fun _ _ _ _ h => h) (pa_cons (pv 0) (pa_cons (pv 1) pa_nil))))
      (pss_one (ps_ret (pe_call (ok_term_of_group T) (hr.mono (by decide)) (by rfl) T.d_term_of_group.g T.d_term_of_group.F.kp T.d_term_of_group.b .nil pass0 (pa_cons (pv 0) (pa_cons (pv 1) pa_nil)))))), ?_⟩
    refine n_seq ?_
    rcases hc with ⟨h1, k1⟩ | ⟨F, rfl, ok, hc⟩
    · exact ⟨_, rfl, _, rfl, p, u, v, d, e, rfl, hu, hv, ht, .inl ⟨h1, k1⟩⟩
    rcases hc with ⟨hs, k1⟩ | ⟨ns, rfl, hs, k⟩
    · exact ⟨_, rfl, _, rfl, p, u, v, _, e, rfl, hu, hv, ht, .inr ⟨F, rfl, ok, .inl ⟨hs, k1⟩⟩⟩
    refine ⟨_, rfl, _, rfl, p, u, v, _, _, rfl, hu, hv, ht, .inr ⟨F, rfl, ok, .inr ⟨hs, fun H1 e1 t1 => ?_⟩⟩⟩
    obtain ⟨nl, sq⟩ : ns.length = F.length ∧ seqL F [] ns = true := by
      rw [seqB_ints, Bool.and_eq_true, decide_eq_true_iff] at hs
      exact hs
    have l8 := ok.most
    obtain ⟨l, rfl, hl⟩ := ord_v (Dq.xt e1 _ _ hv)
    refine ⟨_, rfl, _, rfl, p, u, l, F, ns, rfl, Dq.xt e1 _ _ hu, ok.toFOk, SqL.of hl, seqL_lt F ns [] sq, by omega, fun x H2 e2 qx => ?_⟩
    exact k x H2 (e1.trans (Ex.t e2)) (t1.ex e2) fun q => Dq.any _ _ (flat_tmG F ns) qx
def spLO (K : PySem.W.Frag) (Ts : List Addr) (C : Addr) : Sp := fun vs H Q E => ∃ (p : Addr) (u : V) (d : PyData), vs = [u] ∧ Dq K p H u d ∧ TBs Ts H ∧
  ((groupB d = false ∧ ∀ H', ExT H H' → TBs Ts H' → Er C u H' E) ∨ ∃ F, d = gsD F ∧ GrpOk F ∧ ∀ l ord H', ExT H H' → TBs Ts H' → (∀ b o, H b = some o → (∀ ps, o ≠ HO.tbl ps) → b ≠ l) → l ≠ sysModules → H' l = some (.lst (intsV ord)) → Full F 0 ord → (∀ l', Full F 0 l' → worthF F l' ≤ worthF F ord) → Q (.ref l) H')
theorem ok_least_order (T : Txt K mg) (tb : GxR.TabB base mg T.c_is_group T.P_is_group) : FnOk P w K mg base (L2.CX P w) 8 T.d_least_order.a T.d_least_order.fd ["group"] (spLO K [T.P_is_group] T.E_BadGroup.C) := by
  refine T.d_least_order.F.okX sc_least_order (fun vs H Q E h => ?_) (fun cdv A outer s H vs Q E hr h => ?_)
  · obtain ⟨p, u, d, rfl, _⟩ := h
    rfl
  · obtain ⟨p, u, d, rfl, hu, ht, hc⟩ := h
    refine ⟨_, (pss_cons (ps_expr (pe_call (ok_require_group T tb) (hr.mono (by decide)) (by rfl) T.d_require_group.g T.d_require_group.F.kp T.d_require_group.b .nil (passes_call (takes_of rfl rfl rfl rfl) fun _ _ _ _ h => h) (pa_cons (pv 0) pa_nil)))
      (pss_one (ps_ret (pe_ix ix_tup (pe_call (ok_best_run T) (hr.mono (by decide)) (by rfl) T.d_best_run.g T.d_best_run.F.kp T.d_best_run.b .nil pass0 (pa_cons (pe_call (ok_as_forest T) (hr.mono (by decide)) (by rfl) T.d_as_forest.g T.d_as_forest.F.kp T.d_as_forest.b .nil pass0 (pa_cons (pv 0) pa_nil)) pa_nil)) pe_int (fun _ _ => rfl))))), ?_⟩
    refine n_seq ?_
    rcases hc with ⟨h1, k1⟩ | ⟨F, rfl, ok, k⟩
    · exact ⟨_, rfl, p, u, d, rfl, hu, ht, fun _ H1 e1 t1 => k1 H1 e1 t1, (fun z => by rw [h1] at z; cases z)⟩
    refine ⟨_, rfl, p, u, _, rfl, hu, ht, (fun z => by rw [ok.gb] at z; cases z), fun _ H1 e1 t1 => ?_⟩
    refine ⟨_, rfl, p, u, F, rfl, Dq.xt e1 _ _ hu, ok.toFOk, fun z H2 e2 qz => ?_⟩
    refine ⟨p, z, F, rfl, qz, ok.toFOk, fun t x l ord H3 e3 hS f1 nl lm hl full most => ?_⟩
    refine ⟨t, _, 1, .ref l, rfl, rfl, hS, rfl, ?_⟩
    exact k l ord H3 (e1.trans (Ex.t (e2.trans e3))) (t1.ex (e2.trans e3)) (fun b o hb ho z => by
      have := e2 _ _ (e1 b o ho hb)
      rw [z, nl] at this
      cases this) lm hl full most
end
/-! ### the law's own draws -/
theorem prp_of {q : Rat} (h0 : 0 < q) (h1 : q < 1) : prpB (frd q) = true := by
  unfold prpB
  rw [frB_frd, frQ_frd, Bool.true_and, Bool.and_eq_true, decide_eq_true_iff, decide_eq_true_iff]
  refine ⟨(num_pos_iff q).mpr h0, ?_⟩
  have := (Rat.lt_iff q 1).mp h1
  simpa using this
theorem divInt_prp {n d : Int} (h : 0 < n) (h2 : n < d) : 0 < Rat.divInt n d ∧ Rat.divInt n d < 1 := by
  rw [Rat.divInt_eq_div]
  have hd : (0 : Rat) < (d : Rat) := by exact_mod_cast (by omega : (0 : Int) < d)
  have hn : (0 : Rat) < (n : Rat) := by exact_mod_cast h
  have hnd : (n : Rat) < (d : Rat) := by exact_mod_cast h2
  constructor
  · rw [Rat.lt_div_iff hd]; grind
  · rw [Rat.div_lt_iff hd]; grind
def dShr : List PyData := [.tuple [.int 1, .int 2], .tuple [.int 1, .int 3], .tuple [.int 2, .int 3], .tuple [.int 3, .int 4], .tuple [.int 9, .int 10]]
def dPri : List PyData := [.tuple [.int 1, .int 1], .tuple [.int 2, .int 1], .tuple [.int 0, .int 1], .tuple [.int 1, .int 2], .tuple [.int 3, .int 1], .tuple [.int 4, .int 1], .tuple [.int 5, .int 3]]
def bdB (d : PyData) : Bool := decide ((frQ d).num.natAbs < 2 ^ 10) && decide ((frQ d).den < 2 ^ 10)
theorem good_pri : ∀ d ∈ dPri, (posZ d && bdB d) = true := by decide +kernel
theorem good_shr : ∀ d ∈ dShr, (prpB d && bdB d) = true := by decide +kernel
theorem bdB_bd {d : PyData} (h : bdB d = true) : Bd 10 (frQ d) := by
  unfold bdB at h
  simp only [Bool.and_eq_true, decide_eq_true_eq] at h
  exact h
def tW (n m : Int) : TE := tTup (tCons (tC (.int n)) (tCons (tC (.int m)) tNil))
def tWn (n m : Int) : TE := tTup (tCons (tUn (rU fun i => .int (-i)) (tC (.int n))) (tCons (tC (.int m)) tNil))
section
variable {K : PySem.W.Frag} {p a : Addr} {σ : L2.St} {H : Hp} {N : Nat}
theorem ed_W {n m : Int} : EvD K p (tW n m) σ H (.tuple [.int n, .int m]) := ed_P ed_I ed_I
theorem ed_Wn {n m : Int} : EvD K p (tWn n m) σ H (.tuple [.int (-n), .int m]) := ed_P ed_N ed_I
/-- one of some fractions -/
theorem rd_one {E : XK} {tm : TA} {ds : List PyData} {Q : VK} (hm : EvDs K p tm σ H ds) (hp : Pen H p a N) (h0 : σ[0]? = some (some (.ref p))) (l0 : 0 < ds.length) (l1 : ds.length ≤ 900) (hN : N ≤ 980) (fr : ∀ d ∈ ds, frB d = true)
    (k : ∀ v d H', d ∈ ds → ExB p H H' → Pen H' p a (N + 1) → Dq K p H' v d → Q v H') : tCall (spOne K) [] E (tCons (tVar 0) (tCons (tLst tm) tNil)) σ H Q := by
  refine ⟨_, h0, ?_⟩
  refine hm H (Ex.refl H) _ fun vs H1 e1 qs => ?_
  have vl := qs.len
  refine ⟨Nat.le_of_lt (small1000 (by omega)), fun l fl => ?_⟩
  have x1 := Ex.new (o := .lst vs) fl
  obtain ⟨xp, hxp⟩ := (hp.ex e1).hasP
  have nlp : l ≠ p := (ne_of_none hxp fl).symm
  refine ⟨p, a, l, vs, N, rfl, hp.ex (e1.trans x1), upd_same, nlp, by omega, by omega, by omega, fun x H2 hx eb hp2 => ?_⟩
  obtain ⟨d, hd, qd⟩ := (DqAll.ex x1 _ _ qs).mem x hx
  refine k x d H2 hd ((Ex.b (e1.trans x1)).trans eb) hp2 ?_
  have e := frB_iff (fr d hd)
  rw [e] at qd ⊢
  exact Dq.fl (tupd_l (x1 _ _ hxp)) eb _ _ (flat_frd _) qd
end
section
variable {P : Program} {w : World} {K : PySem.W.Frag} {mg : Str → Option Value} {base : Heap}
def spFrL (K : PySem.W.Frag) (f : PyData → Bool) : Sp := fun vs H Q _ => ∃ (p a : Addr) (N : Nat), vs = [.ref p] ∧ Pen H p a N ∧ N ≤ 900 ∧ ∀ v q H', ExB p H H' → Pen H' p a (N + 3) → Fr K 10 q v H' → f (frd q) = true → Q v H'
theorem ok__law_share (T : Txt K mg) : FnOk P w K mg base CX0 4 T.d__law_share.a T.d__law_share.fd ["_law_pen"] (spFrL K prpB) := by
  refine T.d__law_share.F.ok sc__law_share (fun vs H Q E h => ?_) (fun cdv A outer s H vs Q E hr h => ?_)
  · obtain ⟨p, a, N, rfl, _⟩ := h
    rfl
  · obtain ⟨p, a, N, rfl, hp, hN, k⟩ := h
    refine ⟨_, (pss_cons (ps_if (pt_cmpR op_eq (pe_call (ok__law_take T) (hr.mono (by decide)) (by rfl) T.d__law_take.g T.d__law_take.F.kp T.d__law_take.b .nil pass0 (pa_cons (pv 0) (pa_cons pe_int pa_nil))) pe_int (nomark _)) (pss_one (ps_ret (pe_call (ok__law_one T) (hr.mono (by decide)) (by rfl) T.d__law_one.g T.d__law_one.F.kp T.d__law_one.b .nil pass0 (pa_cons (pv 0) (pa_cons (pe_lst (pa_cons (pe_tup (pa_cons pe_int (pa_cons pe_int pa_nil))) (pa_cons (pe_tup (pa_cons pe_int (pa_cons pe_int pa_nil))) (pa_cons (pe_tup (pa_cons pe_int (pa_cons pe_int pa_nil))) (pa_cons (pe_tup (pa_cons pe_int (pa_cons pe_int pa_nil))) (pa_cons (pe_tup (pa_cons pe_int (pa_cons pe_int pa_nil))) pa_nil)))))) pa_nil))))) pss_nil)
      (pss_cons (ps_set (i := 1) sc__law_share.nd rfl (Or.inl rfl) (pe_op op_add pe_int (pe_call (ok__law_take T) (hr.mono (by decide)) (by rfl) T.d__law_take.g T.d__law_take.F.kp T.d__law_take.b .nil pass0 (pa_cons (pv 0) (pa_cons pe_int pa_nil)))))
      (pss_one (ps_ret (pe_call (ok__law_frac T) (hr.mono (by decide)) (by rfl) T.d__law_frac.g T.d__law_frac.F.kp T.d__law_frac.b .nil pass0 (pa_cons (pe_op op_add pe_int (pe_call (ok__law_take T) (hr.mono (by decide)) (by rfl) T.d__law_take.g T.d__law_take.F.kp T.d__law_take.b .nil pass0 (pa_cons (pv 0) (pa_cons (pe_op op_sub (pv 1) pe_int) pa_nil)))) (pa_cons (pv 1) pa_nil))))))), ?_⟩
    refine n_seq ?_
    refine ⟨_, rfl, p, a, 2, N, rfl, hp, by decide, by decide, by omega, fun r H1 r0 r2 eb1 hp1 => ?_⟩
    refine ⟨rfl, _, rfl, ite2 (fun c => ?_) (fun c => ?_)⟩
    · refine rd_one (K := K) (ds := dShr) (eds_cons ed_W (eds_cons ed_W (eds_cons ed_W (eds_cons ed_W (eds_cons ed_W eds_nil))))) hp1 rfl (by decide) (by decide) (by omega) (fun d hd => ?_) fun v d H2 hd eb2 hp2 q => ?_
      · have := good_shr d hd
        unfold prpB at this
        simp only [Bool.and_eq_true] at this
        exact this.1.1
      · have g := good_shr d hd
        simp only [Bool.and_eq_true] at g
        have hb : frB d = true := by
          have := g.1
          unfold prpB at this
          simp only [Bool.and_eq_true] at this
          exact this.1
        exact k v (frQ d) H2 (eb1.trans eb2) (hp2.mono (by omega)) (q.fr hb (bdB_bd g.2)) (by rw [← frB_iff hb]; exact g.1)
    · refine n_next ?_
      dsimp only
      refine n_seq ?_
      refine ⟨_, rfl, p, a, 9, _, rfl, hp1, by decide, by decide, by omega, fun r9 H2 r90 r99 eb2 hp2 => ⟨2, r9, rfl, rfl, ?_⟩⟩
      dsimp only
      refine ⟨_, rfl, _, rfl, _, _, rfl, rfl, p, a, 2 + r9 - 1, _, rfl, hp2, by omega, by omega, by omega, fun rn H3 rn0 rn1 eb3 hp3 => ⟨1, rn, rfl, rfl, _, rfl, 1 + rn, 2 + r9, 10, rfl, by omega, by omega, by omega, by decide, fun z H4 e4 f4 => ?_⟩⟩
      obtain ⟨g1, g2⟩ := divInt_prp (n := 1 + rn) (d := 2 + r9) (by omega) (by omega)
      exact k z _ H4 (((eb1.trans eb2).trans eb3).trans (Ex.b e4)) ((hp3.ex e4).mono (by omega)) f4 (prp_of g1 g2)
end
/-! ### drawn groups -/
structure TOk (i : Nat) (t : Fk) : Prop where
  pb : Bd 10 t.pay
  fb : Bd 10 t.fac
  pz : posZ (frd (-t.pay)) = true
  pr : prpB (frd t.fac) = true
  gd : ∀ q, t.par = some q → q < i
theorem TOk.test {i : Nat} {t : Fk} (h : TOk i t) : testB (gtD t) (i : Int) = true := by
  show ((isNon (optD t.par) || nbB (optD t.par) (i : Int)) && (posZ (frd (-t.pay)) && prpB (frd t.fac))) = true
  rw [h.pz, h.pr]
  cases hp : t.par with
  | none => rfl
  | some q =>
    have := h.gd q hp
    show ((false || (true && (decide ((0 : Int) ≤ (q : Nat)) && decide (((q : Nat) : Int) < (i : Int))))) && (true && true)) = true
    rw [decide_eq_true (by omega), decide_eq_true (by omega)]
    rfl
theorem tests_of {f : Fk → PyData} : ∀ (F : List Fk) (k : Nat), (∀ j t, F[j]? = some t → testB (f t) ((k + j : Nat) : Int) = true) → testsB k (F.map f) = true
  | [], _, _ => rfl
  | t :: F, k, h => by
    show (testB (f t) ((k : Nat) : Int) && testsB (k + 1) (F.map f)) = true
    have h0 := h 0 t rfl
    rw [Nat.add_zero] at h0
    rw [h0, tests_of F (k + 1) fun j u hu => by rw [show k + 1 + j = k + (j + 1) by omega]; exact h (j + 1) u hu]
    rfl
theorem prp_nn {q : Rat} (h : prpB (frd q) = true) : 0 ≤ q := by
  unfold prpB at h
  rw [frQ_frd, Bool.and_eq_true, Bool.and_eq_true, decide_eq_true_iff] at h
  have := (num_pos_iff q).mp h.2.1
  grind
theorem grp_of {F : List Fk} (l1 : 1 ≤ F.length) (l4 : F.length ≤ 4) (h : ∀ i t, F[i]? = some t → TOk i t) : GrpOk F where
  one := l1
  most := by omega
  four := l4
  lt := fun i q hq => by
    unfold parF at hq
    cases ht : F[i]? with
    | none => rw [ht] at hq; cases hq
    | some t => rw [ht] at hq; exact (h i t ht).gd q hq
  pay := fun t ht => by
    obtain ⟨i, hi⟩ := List.getElem?_of_mem ht
    exact (h i t hi).pb
  fac := fun t ht => by
    obtain ⟨i, hi⟩ := List.getElem?_of_mem ht
    exact (h i t hi).fb
  nn := fun t ht => by
    obtain ⟨i, hi⟩ := List.getElem?_of_mem ht
    exact prp_nn (h i t hi).pr
  gb := by
    show ((decide (1 ≤ (F.map gtD).length) && decide ((F.map gtD).length ≤ 4)) && testsB 0 (F.map gtD)) = true
    rw [List.length_map, decide_eq_true l1, decide_eq_true l4, tests_of F 0 fun j t ht => by rw [Nat.zero_add]; exact (h j t ht).test]
    rfl
section
variable {P : Program} {w : World} {K : PySem.W.Frag} {mg : Str → Option Value} {base : Heap}
def spLGrp (K : PySem.W.Frag) : Sp := fun vs H Q _ => ∃ (p a : Addr) (m N : Nat), vs = [.ref p, .int (m : Nat)] ∧ Pen H p a N ∧ 1 ≤ m ∧ m ≤ 4 ∧ N ≤ 800 ∧ ∀ (v : V) (F : List Fk) (H' : Hp), ExB p H H' → Pen H' p a (N + 32) → Dq K p H' v (gsD F) → GrpOk F → F.length = m → Q v H'
theorem ok__law_group (T : Txt K mg) : FnOk P w K mg base CX0 5 T.d__law_group.a T.d__law_group.fd ["_law_pen", "_law_many"] (spLGrp K) := by
  refine T.d__law_group.F.ok sc__law_group (fun vs H Q E h => ?_) (fun cdv A outer s H vs Q E hr h => ?_)
  · obtain ⟨p, a, m, N, rfl, _⟩ := h
    rfl
  · obtain ⟨p, a, m, N, rfl, hp, m1, m4, hN, k⟩ := h
    refine ⟨_, (pss_cons (ps_set (i := 2) sc__law_group.nd rfl (Or.inl rfl) (pe_lst pa_nil))
      (pss_cons (ps_for PassesOwn.never rfl (pi_range1 (by rfl) T.n_range (pa_cons (pv 1) pa_nil)) (pg_name (i := 3) sc__law_group.nd rfl (Or.inl rfl)) (pss_cons (ps_set (i := 4) sc__law_group.nd rfl (Or.inl rfl) (pe_call (ok__law_one T) (hr.mono (by decide)) (by rfl) T.d__law_one.g T.d__law_one.F.kp T.d__law_one.b .nil pass0 (pa_cons (pv 0) (pa_cons (pe_lst (pa_cons (pe_tup (pa_cons pe_int (pa_cons pe_int pa_nil))) (pa_cons (pe_tup (pa_cons pe_int (pa_cons pe_int pa_nil))) (pa_cons (pe_tup (pa_cons pe_int (pa_cons pe_int pa_nil))) (pa_cons (pe_tup (pa_cons pe_int (pa_cons pe_int pa_nil))) (pa_cons (pe_tup (pa_cons pe_int (pa_cons pe_int pa_nil))) (pa_cons (pe_tup (pa_cons pe_int (pa_cons pe_int pa_nil))) (pa_cons (pe_tup (pa_cons pe_int (pa_cons pe_int pa_nil))) pa_nil)))))))) pa_nil))))
      (pss_cons (ps_set (i := 5) sc__law_group.nd rfl (Or.inl rfl) (pe_call (ok__law_share T) (hr.mono (by decide)) (by rfl) T.d__law_share.g T.d__law_share.F.kp T.d__law_share.b .nil pass0 (pa_cons (pv 0) pa_nil)))
      (pss_cons (ps_set (i := 6) sc__law_group.nd rfl (Or.inl rfl) pe_non)
      (pss_cons (ps_if (PW.pt (pw_and (pt_cmpR op_gt (pv 3) pe_int (nomark _)) (pw_and1 (pt_cmpR op_eq (pe_call (ok__law_take T) (hr.mono (by decide)) (by rfl) T.d__law_take.g T.d__law_take.F.kp T.d__law_take.b .nil pass0 (pa_cons (pv 0) (pa_cons pe_int pa_nil))) pe_int (nomark _))))) (pss_one (ps_set (i := 6) sc__law_group.nd rfl (Or.inl rfl) (pe_call (ok__law_take T) (hr.mono (by decide)) (by rfl) T.d__law_take.g T.d__law_take.F.kp T.d__law_take.b .nil pass0 (pa_cons (pv 0) (pa_cons (pv 3) pa_nil))))) pss_nil)
      (pss_one (ps_expr (pe_bm PySem.F.plainAttrs_list PySem.F.slot_list_append PySem.F.type_list_append mt_append (pv 2) (pa_cons (pe_tup (pa_cons (pv 4) (pa_cons (pv 5) (pa_cons (pv 6) pa_nil)))) pa_nil)))))))))
      (pss_one (ps_ret (pe_callTy call_tuple_of (by rfl) T.n_tuple (by decide +kernel) (pa_cons (pv 2) pa_nil)))))), ?_⟩
    obtain ⟨xp, hxp⟩ := hp.hasP
    obtain ⟨xa, hxa⟩ := hp.hasC
    refine n_seq ?_
    refine ⟨by show 0 ≤ sizeLine; decide, fun D nD => ?_⟩
    have nDp : D ≠ p := (ne_of_none hxp nD).symm
    have nDa : D ≠ a := (ne_of_none hxa nD).symm
    have x0 := Ex.new (o := .lst []) nD
    dsimp only
    refine n_seq ?_
    refine ⟨_, rfl, (m : Int), rfl, by omega, by omega, ?_⟩
    refine for_range (lo := 0) (n := m) (fun i σ G => ∃ y3 y4 y5 y6, σ = [some (.ref p), some (.int (m : Nat)), some (.ref D), y3, y4, y5, y6] ∧ Pen G p a (N + 8 * i) ∧ ExB p H G ∧ ∃ zs F, G D = some (.lst zs) ∧ zs.length = i ∧ F.length = i ∧ DqAll K p G zs (F.map gtD) ∧ ∀ j t, F[j]? = some t → TOk j t) ⟨none, none, none, none, rfl, hp.ex x0, Ex.b x0, [], [], upd_same, rfl, rfl, .nil, fun j t h => by simp at h⟩ ?_ ?_
    · rintro i σ G hi ⟨y3, y4, y5, y6, rfl, hpG, ebG, zs, F, hz, zl, fl, dq, tk⟩
      rw [show (0 : Int) + ((i : Nat) : Int) = ((i : Nat) : Int) by omega]
      refine n_name ?_
      dsimp only
      refine n_seq ?_
      refine (show tCall (spOne K) _ _ _ _ G _ from ?_)
      refine rd_one (K := K) (ds := dPri) (eds_cons ed_W (eds_cons ed_W (eds_cons ed_W (eds_cons ed_W (eds_cons ed_W (eds_cons ed_W (eds_cons ed_W eds_nil))))))) hpG rfl (by decide) (by decide) (by omega) (fun d hd => ?_) fun v d H2 hd eb2 hp2 q => ?_
      · have := good_pri d hd
        unfold posZ at this
        simp only [Bool.and_eq_true] at this
        exact this.1.1
      have gp := good_pri d hd
      simp only [Bool.and_eq_true] at gp
      have hfr : frB d = true := by
        have := gp.1
        unfold posZ at this
        simp only [Bool.and_eq_true] at this
        exact this.1
      have hpz : posZ (frd (frQ d)) = true := by rw [← frB_iff hfr]; exact gp.1
      have fv : Fr K 10 (frQ d) v H2 := q.fr hfr (bdB_bd gp.2)
      dsimp only
      refine n_seq ?_
      refine ⟨_, rfl, p, a, _, rfl, hp2, by omega, fun v2 q2 H3 eb3 hp3 f2 hpr => ?_⟩
      dsimp only
      refine n_seq ?_
      refine n_c ?_
      dsimp only
      obtain ⟨x2, hx2⟩ := hp2.hasP
      obtain ⟨x3, hx3⟩ := hp3.hasP
      have fv3 := fv.lst hx2 eb3
      refine s_join (fun σ G' => ∃ o, σ = [some (.ref p), some (.int (m : Nat)), some (.ref D), some (.int (i : Nat)), some v, some v2, some (optV o)] ∧ ExB p H3 G' ∧ Pen G' p a (N + 8 * i + 1 + 3 + 2) ∧ ∀ q, o = some q → q < i) (fun NN hN' => ?_) ?_
      · refine ⟨_, rfl, _, _, rfl, rfl, _, rfl, ite2 (fun c0 => ?_) (fun c0 => ?_)⟩
        · have c0' : 0 < i := by
            have := of_decide_eq_true c0
            omega
          refine ⟨_, rfl, p, a, 3, _, rfl, hp3, by decide, by decide, by omega, fun r H4 r0 r3 eb4 hp4 => ⟨rfl, _, rfl, ite2 (fun c1 => ?_) (fun c1 => ?_)⟩⟩
          · refine ⟨_, rfl, _, rfl, p, a, (i : Nat), _, rfl, hp4, by omega, by omega, by omega, fun q H5 q0 qi eb5 hp5 => ?_⟩
            obtain ⟨qn, rfl⟩ : ∃ n : Nat, q = (n : Int) := ⟨q.toNat, by omega⟩
            refine hN' _ _ ⟨some qn, rfl, eb4.trans eb5, hp5.mono (by omega), fun q e => ?_⟩
            cases e
            omega
          · refine n_next ?_
            exact hN' _ _ ⟨none, rfl, eb4, hp4.mono (by omega), fun q e => nomatch e⟩
        · refine n_next ?_
          exact hN' _ _ ⟨none, rfl, ExB.refl _ _, hp3.mono (by omega), fun q e => nomatch e⟩
      · rintro σ G' ⟨o, rfl, eb4, hp4, ho⟩
        have fv4 := fv3.lst hx3 eb4
        have f24 := f2.lst hx3 eb4
        have EB := ((eb2.trans eb3).trans eb4)
        have hz4 := EB _ _ nDp hz
        obtain ⟨xg, hxg⟩ := hpG.hasP
        have fl0 : flatDA (F.map gtD) = true := flatDA_of fun d hd => by
          obtain ⟨t, _, rfl⟩ := List.mem_map.mp hd
          exact flat_gt t
        have dq4 := DqAll.fl (tupd_l hxg) EB _ _ fl0 dq
        have ev8 : EvD K p (tTup (tCons (tVar 4) (tCons (tVar 5) (tCons (tVar 6) tNil)))) [some (.ref p), some (.int (m : Nat)), some (.ref D), some (.int (i : Nat)), some v, some v2, some (optV o)] G' (gtD ⟨o, -frQ d, q2⟩) := by
          have := ed_tup (K := K) (p := p) (σ := [some (.ref p), some (.int (m : Nat)), some (.ref D), some (.int (i : Nat)), some v, some v2, some (optV o)]) (H := G') (ds := [frd (frQ d), frd q2, optD o]) (eds_cons (ed_var (i := 4) rfl fv4.dq) (eds_cons (ed_var (i := 5) rfl f24.dq) (eds_cons (ed_var (i := 6) rfl opt_D) eds_nil))) (by show 3 ≤ 1000; decide)
          unfold gtD
          rw [Rat.neg_neg]
          exact this
        refine ⟨.ref D, rfl, .inl ⟨rfl, _, SqL.of hz4⟩, ?_⟩
        refine (show tTup (tCons (tVar 4) (tCons (tVar 5) (tCons (tVar 6) tNil))) _ G' _ from ?_)
        refine ev8 G' (Ex.refl _) _ fun y H5 e5 qy => ?_
        have hz5 := e5 _ _ hz4
        refine ⟨D, zs, y, rfl, rfl, hz5, small1000 (by omega), ?_⟩
        have up : ExB D H5 (upd H5 D (.lst (zs ++ [y]))) := ExB.upd (ExB.refl D H5)
        refine ⟨_, _, _, _, rfl, ((hp4.ex e5).upd nDp nDa).mono (by omega), fun b o' nb hb => ?_, zs ++ [y], F ++ [⟨o, -frQ d, q2⟩], upd_same, by rw [List.length_append, zl]; rfl, by rw [List.length_append, fl]; rfl, ?_, fun j t hj => ?_⟩
        · rw [upd_ne (ne_of_none hb nD)]
          exact e5 _ _ (EB _ _ nb (ebG _ _ nb hb))
        · rw [List.map_append]
          exact (DqAll.fl (tupd_l hz5) up _ _ fl0 (DqAll.ex e5 _ _ dq4)).append (.cons (Dq.fl (tupd_l hz5) up _ _ (flat_gt _) qy) .nil)
        · by_cases c : j < F.length
          · rw [List.getElem?_append_left c] at hj
            exact tk j t hj
          · rw [List.getElem?_append_right (by omega)] at hj
            have e0 : j - F.length = 0 := by
              cases hh : j - F.length with
              | zero => rfl
              | succ n => rw [hh] at hj; cases hj
            rw [e0] at hj
            cases hj
            have ej : j = i := by omega
            subst ej
            exact ⟨fv.bd.neg, f2.bd, by rw [Rat.neg_neg]; exact hpz, hpr, ho⟩
    · rintro σ G ⟨y3, y4, y5, y6, rfl, hpG, ebG, zs, F, hz, zl, fl, dq, tk⟩
      refine ⟨_, rfl, D, zs, rfl, .inl ⟨SqL.of hz, fun t ft => ?_⟩⟩
      have x1 := Ex.new (o := .tup zs) ft
      exact k (.ref t) F _ (ebG.trans (Ex.b x1)) ((hpG.ex x1).mono (by omega)) (.tup (SqT.of upd_same) (DqAll.ex x1 _ _ dq)) (grp_of (by omega) (by omega) tk) fl
end
/-! ### all orders -/
def extF (F : List Fk) (r : List Nat) (n : Nat) : List (List Nat) := ((List.range n).filter (okL F r)).map fun i => r ++ [i]
theorem ext_succ (F : List Fk) (r : List Nat) (n : Nat) : extF F r (n + 1) = extF F r n ++ (if okL F r n = true then [r ++ [n]] else []) := by
  unfold extF
  rw [List.range_succ, List.filter_append, List.map_append]
  congr 1
  by_cases h : okL F r n = true
  · rw [if_pos h]; simp [h]
  · rw [if_neg h]; simp [h]
theorem ext_len (F : List Fk) (r : List Nat) (n : Nat) : (extF F r n).length ≤ n := by
  unfold extF
  rw [List.length_map]
  have := List.length_filter_le (okL F r) (List.range n)
  rwa [List.length_range] at this
def accF (F : List Fk) (rss : List (List Nat)) (j : Nat) : List (List Nat) := (rss.take j).flatMap fun r => extF F r F.length
theorem acc_succ {F : List Fk} {rss : List (List Nat)} {j : Nat} {r : List Nat} (h : rss[j]? = some r) : accF F rss (j + 1) = accF F rss j ++ extF F r F.length := by
  unfold accF
  rw [take_snoc h, List.flatMap_append]
  simp
theorem flat_len {α β : Type} {f : α → List β} {m : Nat} (h : ∀ a, (f a).length ≤ m) : ∀ xs : List α, (xs.flatMap f).length ≤ xs.length * m
  | [] => Nat.zero_le _
  | x :: xs => by
    rw [List.flatMap_cons, List.length_append, List.length_cons, Nat.succ_mul]
    have := flat_len h xs
    have := h x
    omega
theorem acc_len (F : List Fk) (rss : List (List Nat)) (j : Nat) : (accF F rss j).length ≤ j * F.length := by
  unfold accF
  refine Nat.le_trans (flat_len (fun r => ext_len F r F.length) _) (Nat.mul_le_mul_right _ ?_)
  rw [List.length_take]
  omega
theorem rows_acc (F : List Fk) (k : Nat) : rowsF F (k + 1) = accF F (rowsF F k) (rowsF F k).length := by
  unfold accF
  rw [List.take_length]
  rfl
theorem rows_len (F : List Fk) : ∀ k, (rowsF F k).length ≤ F.length ^ k
  | 0 => Nat.le_refl _
  | k + 1 => by
    rw [rows_acc, Nat.pow_succ]
    exact Nat.le_trans (acc_len F _ _) (Nat.mul_le_mul_right _ (rows_len F k))
/-- lists of numbers, new since H0, not the one at D -/
def Rs (H0 : Hp) (D : Addr) (G : Hp) (as : List Addr) (rss : List (List Nat)) : Prop := as.length = rss.length ∧ ∀ (i : Nat) (a : Addr) (r : List Nat), as[i]? = some a → rss[i]? = some r → G a = some (.lst (intsV r)) ∧ a ≠ sysModules ∧ H0 a = none ∧ a ≠ D
theorem Rs.ex {H0 G G' : Hp} {D : Addr} {as : List Addr} {rss : List (List Nat)} (e : ExB D G G') (h : Rs H0 D G as rss) : Rs H0 D G' as rss := ⟨h.1, fun i a r ha hr => by
  obtain ⟨h1, h2, h3, h4⟩ := h.2 i a r ha hr
  exact ⟨e _ _ h4 h1, h2, h3, h4⟩⟩
theorem Rs.nil {H0 G : Hp} {D : Addr} : Rs H0 D G [] [] := ⟨rfl, fun i a r ha => by simp at ha⟩
theorem Rs.snoc {H0 G : Hp} {D a : Addr} {as : List Addr} {rss : List (List Nat)} {r : List Nat} (h : Rs H0 D G as rss) (ha : G a = some (.lst (intsV r))) (n1 : a ≠ sysModules) (n2 : H0 a = none) (n3 : a ≠ D) : Rs H0 D G (as ++ [a]) (rss ++ [r]) := by
  refine ⟨by rw [List.length_append, List.length_append, h.1]; rfl, fun i b s hb hs => ?_⟩
  by_cases c : i < as.length
  · rw [List.getElem?_append_left c] at hb
    rw [List.getElem?_append_left (by rw [← h.1]; exact c)] at hs
    exact h.2 i b s hb hs
  · rw [List.getElem?_append_right (by omega)] at hb
    rw [List.getElem?_append_right (by rw [← h.1]; omega), ← h.1] at hs
    have e0 : i - as.length = 0 := by
      cases hh : i - as.length with
      | zero => rfl
      | succ n => rw [hh] at hb; cases hb
    rw [e0] at hb hs
    cases hb
    cases hs
    exact ⟨ha, n1, n2, n3⟩
theorem Rs.free {H0 G : Hp} {D D' : Addr} {as : List Addr} {rss : List (List Nat)} (h : Rs H0 D G as rss) (hD : G D' = none) : Rs H0 D' G as rss := ⟨h.1, fun i a r ha hr => by
  obtain ⟨h1, h2, h3, _⟩ := h.2 i a r ha hr
  exact ⟨h1, h2, h3, ne_of_none h1 hD⟩⟩
theorem Ex.viaB {H G G1 : Hp} {D : Addr} (ex : Ex H G) (n : H D = none) (e : ExB D G G1) : Ex H G1 := fun b o hb => e b o (fun z => by rw [z, n] at hb; cases hb) (ex b o hb)
section
variable {K : PySem.W.Frag} {p : Addr} {σ : L2.St} {H : Hp} {u : V} {F : List Fk} {i j n : Nat}
/-- group[number][2] -/
theorem rd_gd {Q : VK} {t : Fk} (hi : σ[i]? = some (some u)) (hu : Dq K p H u (gsD F)) (hj : σ[j]? = some (some (.int (n : Nat)))) (ht : F[n]? = some t) (k : Q (optV t.par) H) : tOp (rIxT K) (tOp (rIxT K) (tVar i) (tVar j)) (tC (.int 2)) σ H Q := by
  obtain ⟨a, xs, rfl, hS, hA⟩ := hu.seq
  have l : n < F.length := (List.getElem?_eq_some_iff.mp ht).1
  have il : n < xs.length := by rw [hA.len, List.length_map]; exact l
  have hx := List.getElem?_eq_getElem il
  obtain ⟨t', ht', qt⟩ := hA.at_ hx
  rw [ht] at ht'
  cases ht'
  obtain ⟨b, x0, x1, e1, hb, q0, q1⟩ := qt.g3
  refine ⟨_, hi, _, hj, a, xs, (n : Int), _, rfl, rfl, hS, atI_nat hx, ?_⟩
  rw [e1]
  exact ⟨b, _, 2, _, rfl, rfl, hb, rfl, k⟩
/-- group[number][0], group[number][1] -/
theorem ep_gpr (ok : FOk F) (hi : σ[i]? = some (some u)) (hu : Dq K p H u (gsD F)) (hj : σ[j]? = some (some (.int (n : Nat)))) (l : n < F.length) : EvP (tOp (rIxT K) (tOp (rIxT K) (tVar i) (tVar j)) (tC (.int 0))) σ H (Fr K 10 (-payF F n)) := fun H1 e Q k => by
  obtain ⟨a, xs, rfl, hS, hA⟩ := (Dq.ex e _ _ hu).seq
  have il : n < xs.length := by rw [hA.len, List.length_map]; exact l
  have hx := List.getElem?_eq_getElem il
  obtain ⟨t, ht, qt⟩ := hA.at_ hx
  obtain ⟨b, x0, x1, e1, hb, q0, q1⟩ := qt.g3
  refine ⟨_, hi, _, hj, a, xs, (n : Int), _, rfl, rfl, hS, atI_nat hx, ?_⟩
  rw [e1]
  refine ⟨b, _, 0, x0, rfl, rfl, hb, rfl, k x0 H1 (Ex.refl _) ?_⟩
  rw [payF_at ht]
  exact q0.frq (ok.pay t (List.mem_of_getElem? ht)).neg
theorem ep_gfa (ok : FOk F) (hi : σ[i]? = some (some u)) (hu : Dq K p H u (gsD F)) (hj : σ[j]? = some (some (.int (n : Nat)))) (l : n < F.length) : EvP (tOp (rIxT K) (tOp (rIxT K) (tVar i) (tVar j)) (tC (.int 1))) σ H (Fr K 10 (facF F n)) := fun H1 e Q k => by
  obtain ⟨a, xs, rfl, hS, hA⟩ := (Dq.ex e _ _ hu).seq
  have il : n < xs.length := by rw [hA.len, List.length_map]; exact l
  have hx := List.getElem?_eq_getElem il
  obtain ⟨t, ht, qt⟩ := hA.at_ hx
  obtain ⟨b, x0, x1, e1, hb, q0, q1⟩ := qt.g3
  refine ⟨_, hi, _, hj, a, xs, (n : Int), _, rfl, rfl, hS, atI_nat hx, ?_⟩
  rw [e1]
  refine ⟨b, _, 1, x1, rfl, rfl, hb, rfl, k x1 H1 (Ex.refl _) ?_⟩
  rw [facF_at ht]
  exact q1.frq (ok.fac t (List.mem_of_getElem? ht))
end
section
variable {P : Program} {w : World} {K : PySem.W.Frag} {mg : Str → Option Value} {base : Heap}
def spOrds (K : PySem.W.Frag) : Sp := fun vs H Q _ => ∃ (p : Addr) (u : V) (F : List Fk), vs = [u] ∧ Dq K p H u (gsD F) ∧ GrpOk F ∧ ∀ L as H', Ex H H' → H L = none → H' L = some (.lst (as.map V.ref)) → Rs H L H' as (rowsF F F.length) → Q (.ref L) H'
theorem ok__law_orders (T : Txt K mg) : FnOk P w K mg base CX0 1 T.d__law_orders.a T.d__law_orders.fd ["_law_group_here"] (spOrds K) := by
  refine T.d__law_orders.F.ok sc__law_orders (fun vs H Q E h => ?_) (fun cdv A outer s H vs Q E hr h => ?_)
  · obtain ⟨p, u, F, rfl, _⟩ := h
    rfl
  · obtain ⟨p, u, F, rfl, hu, ok, k⟩ := h
    refine ⟨_, (pss_cons (ps_set (i := 1) sc__law_orders.nd rfl (Or.inl rfl) (pe_lstN (pa_cons (pe_lstN pa_nil) pa_nil)))
      (pss_cons (ps_for PassesOwn.never rfl (pi_range1 (by rfl) T.n_range (pa_cons (pe_callB call_len_seq (by rfl) T.n_len (by decide +kernel) (pa_cons (pv 0) pa_nil)) pa_nil)) (pg_name (i := 2) sc__law_orders.nd rfl (Or.inl rfl)) (pss_cons (ps_set (i := 3) sc__law_orders.nd rfl (Or.inl rfl) (pe_lstN pa_nil))
      (pss_cons (ps_for PassesOwn.never rfl (pi_list (pv 1)) (pg_name (i := 4) sc__law_orders.nd rfl (Or.inl rfl)) (pss_one (ps_for PassesOwn.never rfl (pi_range1 (by rfl) T.n_range (pa_cons (pe_callB call_len_seq (by rfl) T.n_len (by decide +kernel) (pa_cons (pv 0) pa_nil)) pa_nil)) (pg_name (i := 5) sc__law_orders.nd rfl (Or.inl rfl)) (pss_one (ps_if (PW.pt (pw_and (pt_cmpR op_notIn_seq (pv 5) (pv 4) (by rfl)) (pw_and1 (PW.pt (pw_or (pt_cmpR op_isN (pe_ix ix_tup (pe_ix ix_tup (pv 0) (pv 5) (fun _ _ => rfl)) pe_int (fun _ _ => rfl)) pe_non (nomark _)) (pw_or1 (pt_cmpR op_in_seq (pe_ix ix_tup (pe_ix ix_tup (pv 0) (pv 5) (fun _ _ => rfl)) pe_int (fun _ _ => rfl)) (pv 4) (by rfl)))))))) (pss_one (ps_expr (pe_bm PySem.F.plainAttrs_list PySem.F.slot_list_append PySem.F.type_list_append mt_append (pv 3) (pa_cons (pe_op op_catN (pv 4) (pe_lstN (pa_cons (pv 5) pa_nil))) pa_nil)))) pss_nil)))))
      (pss_one (ps_set (i := 1) sc__law_orders.nd rfl (Or.inl rfl) (pv 3))))))
      (pss_one (ps_ret (pv 1))))), ?_⟩
    have l4 := ok.four
    have ul : ∃ a xs, u = .ref a ∧ SqT K H a xs ∧ xs.length = F.length := by
      obtain ⟨a, xs, rfl, hS, hA⟩ := hu.seq
      exact ⟨a, xs, rfl, hS, by rw [hA.len, List.length_map]⟩
    obtain ⟨ua, uxs, rfl, huS, uxl⟩ := ul
    refine n_seq ?_
    refine ⟨by show 0 ≤ sizeLine; decide, fun b fb bm => ⟨by show 1 ≤ sizeLine; decide, fun L fL _ => ?_⟩⟩
    dsimp only
    have xb := Ex.new (o := .lst []) fb
    have xL := Ex.new (o := .lst [.ref b]) fL
    have hb0 : (upd (upd H b (.lst [])) L (.lst [.ref b])) b = some (.lst (intsV [])) := xL _ _ upd_same
    have hL0 : (upd (upd H b (.lst [])) L (.lst [.ref b])) L = some (.lst (([b] : List Addr).map V.ref)) := upd_same
    have X0 := xb.trans xL
    have nbL : b ≠ L := ne_of_none (H := upd H b (.lst [])) upd_same fL
    have fL0 : H L = none := none_ex xb fL
    generalize upd (upd H b (.lst [])) L (.lst [.ref b]) = G0 at hb0 hL0 X0
    have R0 : Rs H L G0 [b] (rowsF F 0) := ⟨rfl, fun i a r ha hr => by
      cases i with
      | zero =>
        cases ha
        cases hr
        exact ⟨hb0, bm, fb, nbL⟩
      | succ i => simp at ha⟩
    refine n_seq ?_
    refine ⟨_, rfl, ua, uxs, rfl, .inr (ex_t X0 huS), (uxs.length : Int), rfl, by omega, by omega, ?_⟩
    refine for_range (lo := 0) (n := uxs.length) (fun k σ G => ∃ L as y2 y3 y4 y5, σ = [some (.ref ua), some (.ref L), y2, y3, y4, y5] ∧ Ex H G ∧ H L = none ∧ G L = some (.lst (as.map V.ref)) ∧ Rs H L G as (rowsF F k)) ⟨L, [b], none, none, none, none, rfl, X0, fL0, hL0, R0⟩ ?_ ?_
    · rintro kk σ G hk ⟨L, as, y2, y3, y4, y5, rfl, ex, nL, hL, rs⟩
      refine n_name ?_
      dsimp only
      refine n_seq ?_
      refine ⟨by show 0 ≤ sizeLine; decide, fun D nD _ => ?_⟩
      dsimp only
      have xD := Ex.new (o := .lst []) nD
      have nHD : H D = none := none_ex ex nD
      have nLD : L ≠ D := ne_of_none hL nD
      have asl := rs.1
      have rl := rows_len F kk
      have p4 : F.length ^ kk ≤ 4 ^ kk := Nat.pow_le_pow_left l4 kk
      have p3 : 4 ^ kk ≤ 4 ^ 3 := Nat.pow_le_pow_right (by decide) (by omega)
      have rl64 : (rowsF F kk).length ≤ 64 := by
        have : (4 : Nat) ^ 3 = 64 := by decide
        omega
      refine n_seq ?_
      refine ⟨_, rfl, L, rfl, ⟨_, SqL.of (xD _ _ hL)⟩, ?_⟩
      refine for_list (K := K) (a := L) (xs := as.map V.ref) (fun j σ G1 => ∃ bs y4 y5, σ = [some (.ref ua), some (.ref L), some (.int (0 + (kk : Nat))), some (.ref D), y4, y5] ∧ ExB D G G1 ∧ Rs H D G1 bs (accF F (rowsF F kk) j) ∧ G1 D = some (.lst (bs.map V.ref)) ∧ j ≤ as.length) ⟨[], _, _, rfl, Ex.b xD, Rs.nil, upd_same, Nat.zero_le _⟩ (fun j σ G1 _ h => by
        obtain ⟨_, _, _, _, e, _⟩ := h
        exact SqL.of (e _ _ nLD hL)) ?_ ?_
      · rintro j x σ G1 hx ⟨bs, y4, y5, rfl, e1, rs1, hD, jl⟩
        have jl' : j < as.length := by
          have := (List.getElem?_eq_some_iff.mp hx).1
          rwa [List.length_map] at this
        obtain ⟨a, ha0⟩ : ∃ a, as[j]? = some a := ⟨_, List.getElem?_eq_getElem jl'⟩
        rw [List.getElem?_map, ha0] at hx
        cases hx
        obtain ⟨r, hr0⟩ : ∃ r, (rowsF F kk)[j]? = some r := ⟨_, List.getElem?_eq_getElem (by omega)⟩
        obtain ⟨ha, am, an, _⟩ := rs.2 j a r ha0 hr0
        have naD : a ≠ D := ne_of_none ha nD
        have r4 : r.length ≤ 4 := by
          have := ((mem_rows F kk r).mp (List.mem_of_getElem? hr0)).1
          omega
        refine n_name ?_
        dsimp only
        have exG : Ex H G1 := Ex.viaB ex nHD e1
        refine ⟨_, rfl, ua, uxs, rfl, .inr (ex_t exG huS), (uxs.length : Int), rfl, by omega, by omega, ?_⟩
        refine for_range (lo := 0) (n := uxs.length) (fun n σ G2 => ∃ bs y5, σ = [some (.ref ua), some (.ref L), some (.int (0 + (kk : Nat))), some (.ref D), some (.ref a), y5] ∧ ExB D G G2 ∧ Rs H D G2 bs (accF F (rowsF F kk) j ++ extF F r n) ∧ G2 D = some (.lst (bs.map V.ref))) ⟨bs, _, rfl, e1, by show Rs H D G1 bs (_ ++ []); rw [List.append_nil]; exact rs1, hD⟩ ?_ ?_
        · rintro n σ G2 hn ⟨bs, y5, rfl, e2, rs2, hD2⟩
          rw [show (0 : Int) + ((n : Nat) : Int) = ((n : Nat) : Int) by omega]
          obtain ⟨t, ht⟩ : ∃ t, F[n]? = some t := ⟨_, List.getElem?_eq_getElem (by omega)⟩
          have ha2 := e2 _ _ naD ha
          have ex2 : Ex H G2 := Ex.viaB ex nHD e2
          have hu2 := Dq.ex ex2 _ _ hu
          refine n_name ?_
          dsimp only
          have okn : okL F r n = (!decide (n ∈ r) && upL t.par r) := by
            unfold okL
            rw [decide_eq_true (by omega : n < F.length), Bool.true_and, parF_at ht]
          have tst : EvT (tAnd (tTest (tOp (rIn K true) (tVar 5) (tVar 4))) (tOr (tTest (tOp (fun x y H Q => y = V.non ∧ Q (V.bl (decide (x = V.non))) H) (tOp (rIxT K) (tOp (rIxT K) (tVar 0) (tVar 5)) (tC (V.int 2))) (tC V.non))) (tTest (tOp (rIn K false) (tOp (rIxT K) (tOp (rIxT K) (tVar 0) (tVar 5)) (tC (V.int 2))) (tVar 4)))))
              [some (.ref ua), some (.ref L), some (.int (0 + (kk : Nat))), some (.ref D), some (.ref a), some (.int (n : Nat))] G2 (okL F r n) := by
            rw [okn]
            refine et_and (fun H1 e Q' k' => ?_) fun _ => ?_
            · refine ⟨_, rfl, _, rfl, a, intsV r, rfl, .inl (SqL.of (e _ _ ha2)), rfl, flat_ints r, _, rfl, ?_⟩
              rw [if_pos rfl, inV_ints]
              exact k' H1 (Ex.refl _)
            · cases hp : t.par with
              | none =>
                refine et_is (et_or (a := true) (b := true) (fun H1 e Q' k' => ?_) fun z => nomatch z) rfl
                refine rd_gd rfl (Dq.ex e _ _ hu2) rfl ht ?_
                rw [hp]
                exact ⟨rfl, _, rfl, k' H1 (Ex.refl _)⟩
              | some q =>
                refine et_is (et_or (a := false) (b := decide (q ∈ r)) (fun H1 e Q' k' => ?_) fun _ => fun H1 e Q' k' => ?_) rfl
                · refine rd_gd rfl (Dq.ex e _ _ hu2) rfl ht ?_
                  rw [hp]
                  exact ⟨rfl, _, rfl, k' H1 (Ex.refl _)⟩
                · refine rd_gd rfl (Dq.ex e _ _ hu2) rfl ht ?_
                  rw [hp]
                  refine ⟨_, rfl, a, intsV r, rfl, .inl (SqL.of (e _ _ ha2)), rfl, flat_ints r, _, rfl, ?_⟩
                  rw [if_neg (by decide), show optV (some q) = .int ((q : Nat) : Int) from rfl, inV_ints]
                  exact k' H1 (Ex.refl _)
          refine s_if tst (fun hc G3 e3 => ?_) (fun hc G3 e3 => ?_)
          · have hD3 := e3 _ _ hD2
            have bl : bs.length ≤ 260 := by
              have h1 := rs2.1
              have h2 := acc_len F (rowsF F kk) j
              have h3 := ext_len F r n
              have h4 : j * F.length ≤ 64 * 4 := Nat.mul_le_mul (by omega) l4
              rw [List.length_append] at h1
              omega
            refine ⟨.ref D, rfl, .inl ⟨rfl, _, SqL.of hD3⟩, ?_⟩
            refine ⟨_, rfl, _, rfl, by show 1 ≤ sizeLine; decide, fun b5 f5 _ => ?_⟩
            have x5 := Ex.new (o := .lst [.int (n : Nat)]) f5
            refine ⟨a, b5, intsV r, [.int (n : Nat)], rfl, rfl, x5 _ _ (e3 _ _ ha2), upd_same, by rw [intsV_len]; exact Nat.le_of_lt (small1000 (by show r.length + 1 ≤ 1000; omega)), fun c fc cm => ?_⟩
            have xc := Ex.new (o := .lst (intsV r ++ [.int (n : Nat)])) fc
            refine ⟨D, bs.map V.ref, .ref c, rfl, rfl, (x5.trans xc) _ _ hD3, small1000 (by rw [List.length_map]; omega), ?_⟩
            have X3 := (e3.trans (x5.trans xc))
            have hDc := (x5.trans xc) _ _ hD3
            have ncD : c ≠ D := (ne_of_none (x5 _ _ hD3) fc).symm
            have hc1 : (upd (upd G3 b5 (.lst [.int (n : Nat)])) c (.lst (intsV r ++ [.int (n : Nat)]))) c = some (.lst (intsV (r ++ [n]))) := by
              rw [upd_same]
              unfold intsV
              rw [List.map_append]
              rfl
            have hcn : H c = none := none_ex ((ex2.trans e3).trans x5) fc
            have R := (rs2.ex (Ex.b X3)).snoc hc1 cm hcn ncD
            refine ⟨bs ++ [c], _, rfl, (e2.trans (Ex.b X3)).upd, ?_, ?_⟩
            · rw [ext_succ, if_pos hc, ← List.append_assoc]
              exact R.ex (ExB.upd (ExB.refl D _))
            · rw [upd_same, List.map_append]
              rfl
          · refine n_next ?_
            refine ⟨bs, _, rfl, e2.trans (Ex.b e3), ?_, e3 _ _ hD2⟩
            rw [ext_succ, if_neg (by rw [hc]; decide), List.append_nil]
            exact rs2.ex (Ex.b e3)
        · rintro σ G2 ⟨bs, y5, rfl, e2, rs2, hD2⟩
          rw [uxl] at rs2
          rw [← acc_succ hr0] at rs2
          exact ⟨bs, _, _, rfl, e2, rs2, hD2, jl'⟩
      · rintro σ G1 ⟨bs, y4, y5, rfl, e1, rs1, hD, jl⟩
        rw [List.length_map, asl, ← rows_acc] at rs1
        refine ⟨_, rfl, D, bs, _, _, _, _, rfl, Ex.viaB ex nHD e1, nHD, hD, rs1⟩
    · rintro σ G ⟨L, as, y2, y3, y4, y5, rfl, ex, nL, hL, rs⟩
      rw [uxl] at rs
      exact ⟨_, rfl, k L as G ex nL hL rs⟩
end
/-! ### the law's costs, the least one, its terms -/
theorem neg_snoc (F : List Fk) (a : List Nat) (i : Nat) : -worthF F (a ++ [i]) = -worthF F a + prodF F a * -payF F i := by
  rw [worth_snoc]
  grind
theorem rows_ne {F : List Fk} (ok : FOk F) : ∃ l, l ∈ rowsF F F.length := by
  have key : ∀ n d, F.length - cntD d F.length ≤ n → d < 2 ^ F.length → ∃ l, Full F d l := by
    intro n
    induction n with
    | zero =>
      intro d hc hd
      have := cnt_le d F.length
      exact ⟨[], rfl, by show cntD d F.length + 0 = F.length; omega⟩
    | succ n ih =>
      intro d hc hd
      by_cases e : d = 2 ^ F.length - 1
      · subst e
        exact ⟨[], rfl, by show cntD _ F.length + 0 = F.length; rw [cnt_every _ _ (Nat.le_refl _)]; rfl⟩
      · obtain ⟨i, hi⟩ := open_one ok.lt hd e
        obtain ⟨l, hl⟩ := ih (addD d i) (by rw [okD_cnt hi]; omega) (add_lt hd (okD_lt hi))
        exact ⟨i :: l, full_cons.mpr ⟨hi, hl⟩⟩
  obtain ⟨l, hl⟩ := key F.length 0 (by omega) (Nat.two_pow_pos _)
  exact ⟨l, full_iff.mp hl⟩
section
variable {P : Program} {w : World} {K : PySem.W.Frag} {mg : Str → Option Value} {base : Heap}
def spOC (K : PySem.W.Frag) : Sp := fun vs H Q _ => ∃ (p : Addr) (u : V) (l : Addr) (F : List Fk) (ns : List Nat), vs = [u, .ref l] ∧ Dq K p H u (gsD F) ∧ FOk F ∧ SqL K H l (intsV ns) ∧ (∀ n ∈ ns, n < F.length) ∧ ns.length ≤ 8 ∧ ∀ x H', Ex H H' → Fr K (2 + 22 * ns.length) (-worthF F ns) x H' → Q x H'
theorem ok__law_order_cost (T : Txt K mg) : FnOk P w K mg base CX0 4 T.d__law_order_cost.a T.d__law_order_cost.fd ["_law_group_here", "_law_order"] (spOC K) := by
  refine T.d__law_order_cost.F.ok sc__law_order_cost (fun vs H Q E h => ?_) (fun cdv A outer s H vs Q E hr h => ?_)
  · obtain ⟨p, u, l, F, ns, rfl, _⟩ := h
    rfl
  · obtain ⟨p, u, l, F, ns, rfl, hu, ok, hS, hn, l8, k⟩ := h
    refine ⟨_, (pss_cons (ps_asg (pe_tup (pa_cons (pe_tup (pa_cons pe_int (pa_cons pe_int pa_nil))) (pa_cons (pe_tup (pa_cons pe_int (pa_cons pe_int pa_nil))) pa_nil))) (pg_tup (by rfl) (pgs_cons (pg_name (i := 2) sc__law_order_cost.nd rfl (Or.inl rfl)) (pgs_cons (pg_name (i := 3) sc__law_order_cost.nd rfl (Or.inl rfl)) pgs_nil))))
      (pss_cons (ps_for PassesOwn.never rfl (pi_list (pv 1)) (pg_name (i := 4) sc__law_order_cost.nd rfl (Or.inl rfl)) (pss_cons (ps_set (i := 2) sc__law_order_cost.nd rfl (Or.inl rfl) (pe_call (ok__law_add T) (hr.mono (by decide)) (by rfl) T.d__law_add.g T.d__law_add.F.kp T.d__law_add.b .nil pass0 (pa_cons (pv 2) (pa_cons (pe_call (ok__law_mul T) (hr.mono (by decide)) (by rfl) T.d__law_mul.g T.d__law_mul.F.kp T.d__law_mul.b .nil pass0 (pa_cons (pv 3) (pa_cons (pe_ix ix_tup (pe_ix ix_tup (pv 0) (pv 4) (fun _ _ => rfl)) pe_int (fun _ _ => rfl)) pa_nil))) pa_nil))))
      (pss_one (ps_set (i := 3) sc__law_order_cost.nd rfl (Or.inl rfl) (pe_call (ok__law_mul T) (hr.mono (by decide)) (by rfl) T.d__law_mul.g T.d__law_mul.F.kp T.d__law_mul.b .nil pass0 (pa_cons (pv 3) (pa_cons (pe_ix ix_tup (pe_ix ix_tup (pv 0) (pv 4) (fun _ _ => rfl)) pe_int (fun _ _ => rfl)) pa_nil)))))))
      (pss_one (ps_ret (pv 2))))), ?_⟩
    refine n_seq ?_
    refine ⟨by show 2 ≤ sizeLine; decide, fun t1 f1 => ⟨by show 2 ≤ sizeLine; decide, fun t2 f2 => ⟨by show 2 ≤ sizeLine; decide, fun t3 f3 => ?_⟩⟩⟩
    have x2 := Ex.new (o := .tup [.int 1, .int 1]) f2
    have x3 := Ex.new (o := .tup [.ref t1, .ref t2]) f3
    have e0 := ((Ex.new (o := .tup [.int 0, .int 1]) f1).trans x2).trans x3
    have b1 : Fr K 2 0 (.ref t1) (upd (upd (upd H t1 (.tup [.int 0, .int 1])) t2 (.tup [.int 1, .int 1])) t3 (.tup [.ref t1, .ref t2])) := ⟨_, rfl, SqT.of (x3 _ _ (x2 _ _ upd_same)), by decide, by decide⟩
    have b2 : Fr K 2 1 (.ref t2) (upd (upd (upd H t1 (.tup [.int 0, .int 1])) t2 (.tup [.int 1, .int 1])) t3 (.tup [.ref t1, .ref t2])) := ⟨_, rfl, SqT.of (x3 _ _ upd_same), by decide, by decide⟩
    refine ⟨t3, _, rfl, SqT.of upd_same, rfl, _, _, rfl, _, _, rfl, rfl, ?_⟩
    generalize upd (upd (upd H t1 (.tup [.int 0, .int 1])) t2 (.tup [.int 1, .int 1])) t3 (.tup [.ref t1, .ref t2]) = G0 at e0 b1 b2
    dsimp only
    refine n_seq ?_
    refine ⟨_, rfl, l, rfl, ⟨_, ex_l e0 hS⟩, ?_⟩
    refine for_list (K := K) (a := l) (xs := intsV ns) (fun i σ G => Ex H G ∧ ∃ (z1 z2 : V) (y : Option V), σ = [some u, some (.ref l), some z1, some z2, y] ∧ Fr K (2 + 22 * i) (-worthF F (ns.take i)) z1 G ∧ Fr K (2 + 11 * i) (prodF F (ns.take i)) z2 G) ⟨e0, _, _, none, rfl, b1, b2⟩ (fun i σ G _ h => ex_l h.1 hS) ?_ ?_
    · rintro i x σ G hx ⟨ex, z1, z2, y, rfl, g1, g2⟩
      have il : i < ns.length := by
        have := (List.getElem?_eq_some_iff.mp hx).1
        rwa [intsV_len] at this
      obtain ⟨n, hn1, rfl⟩ := intsV_at hx
      have nl := hn n (List.mem_of_getElem? hn1)
      have tl : (ns.take (i + 1)).length = i + 1 := by rw [List.length_take]; omega
      refine n_name ?_
      dsimp only
      refine n_seq ?_
      refine s_asgP (ep_2L (K := K) (n := (2 + 22 * i) + (2 + 11 * i + 10 + 1) + 1) (ep_var rfl g1) (ep_2L (n := 2 + 11 * i + 10 + 1) (ep_var rfl g2) (ep_gpr ok rfl (Dq.ex ex _ _ hu) rfl nl) trivial (by omega) rfl) trivial (by omega) rfl) fun w1 G2 e2 h1 => ?_
      dsimp only
      refine s_asgP (ep_2L (K := K) (n := 2 + 11 * i + 10 + 1) (ep_var rfl (g2.ex e2)) (ep_gfa ok rfl (Dq.ex (ex.trans e2) _ _ hu) rfl nl) trivial (by omega) rfl) fun w2 G3 e3 h2 => ?_
      dsimp only
      have b1 := (ok.bworth (ns.take (i + 1))).neg
      have b2 := ok.bprod (ns.take (i + 1))
      rw [tl] at b1 b2
      rw [← neg_snoc, ← take_snoc hn1] at h1
      rw [← prod_snoc, ← take_snoc hn1] at h2
      exact ⟨(ex.trans e2).trans e3, w1, w2, _, rfl, (h1.ex e3).re b1, h2.re b2⟩
    · rintro σ G ⟨ex, z1, z2, y, rfl, g1, g2⟩
      rw [intsV_len, List.take_of_length_le (Nat.le_refl _)] at g1
      exact ⟨_, rfl, k z1 G ex g1⟩
def spLst (K : PySem.W.Frag) : Sp := fun vs H Q _ => ∃ (p : Addr) (u : V) (F : List Fk), vs = [u] ∧ Dq K p H u (gsD F) ∧ GrpOk F ∧ ∀ x q H', Ex H H' → Fr K 200 q x H' → (∃ l, Full F 0 l ∧ q = -worthF F l) → (∀ l, Full F 0 l → q ≤ -worthF F l) → Q x H'
theorem ok__law_least (T : Txt K mg) : FnOk P w K mg base CX0 5 T.d__law_least.a T.d__law_least.fd ["_law_group_here"] (spLst K) := by
  refine T.d__law_least.F.ok sc__law_least (fun vs H Q E h => ?_) (fun cdv A outer s H vs Q E hr h => ?_)
  · obtain ⟨p, u, F, rfl, _⟩ := h
    rfl
  · obtain ⟨p, u, F, rfl, hu, ok, k⟩ := h
    refine ⟨_, (pss_cons (ps_set (i := 1) sc__law_least.nd rfl (Or.inl rfl) pe_non)
      (pss_cons (ps_for PassesOwn.never rfl (pi_list (pe_call (ok__law_orders T) (hr.mono (by decide)) (by rfl) T.d__law_orders.g T.d__law_orders.F.kp T.d__law_orders.b .nil pass0 (pa_cons (pv 0) pa_nil))) (pg_name (i := 2) sc__law_least.nd rfl (Or.inl rfl)) (pss_cons (ps_set (i := 3) sc__law_least.nd rfl (Or.inl rfl) (pe_call (ok__law_order_cost T) (hr.mono (by decide)) (by rfl) T.d__law_order_cost.g T.d__law_order_cost.F.kp T.d__law_order_cost.b .nil pass0 (pa_cons (pv 0) (pa_cons (pv 2) pa_nil))))
      (pss_one (ps_if (PW.pt (pw_or (pt_cmpR op_isN (pv 1) pe_non (nomark _)) (pw_or1 (pt_val (pe_call (ok__law_is_less T) (hr.mono (by decide)) (by rfl) T.d__law_is_less.g T.d__law_is_less.F.kp T.d__law_is_less.b .nil pass0 (pa_cons (pv 3) (pa_cons (pv 1) pa_nil))))))) (pss_one (ps_set (i := 1) sc__law_least.nd rfl (Or.inl rfl) (pv 3))) pss_nil))))
      (pss_one (ps_ret (pv 1))))), ?_⟩
    refine n_seq ?_
    refine n_c ?_
    dsimp only
    refine n_seq ?_
    refine ⟨_, rfl, p, u, F, rfl, hu, ok, fun L as H1 e1 nL hL rs => ?_⟩
    refine ⟨L, rfl, ⟨_, SqL.of hL⟩, ?_⟩
    have asl := rs.1
    have l4 := ok.four
    have hu1 := Dq.ex e1 _ _ hu
    obtain ⟨i0, hi0⟩ := rows_ne ok.toFOk
    refine for_list (K := K) (a := L) (xs := as.map V.ref) (fun j σ G => Ex H1 G ∧ ∃ z y2 y3, σ = [some u, some z, y2, y3] ∧ ((j = 0 ∧ z = .non) ∨ ∃ q, Fr K 200 q z G ∧ (∃ l ∈ (rowsF F F.length).take j, q = -worthF F l) ∧ ∀ l ∈ (rowsF F F.length).take j, q ≤ -worthF F l)) ⟨Ex.refl _, _, none, none, rfl, .inl ⟨rfl, rfl⟩⟩ (fun j σ G _ h => SqL.of (h.1 _ _ hL)) ?_ ?_
    · rintro j x σ G hx ⟨ex, z, y2, y3, rfl, hz⟩
      have jl' : j < as.length := by
        have := (List.getElem?_eq_some_iff.mp hx).1
        rwa [List.length_map] at this
      obtain ⟨a, ha0⟩ : ∃ a, as[j]? = some a := ⟨_, List.getElem?_eq_getElem jl'⟩
      rw [List.getElem?_map, ha0] at hx
      cases hx
      obtain ⟨r, hr0⟩ : ∃ r, (rowsF F F.length)[j]? = some r := ⟨_, List.getElem?_eq_getElem (by omega)⟩
      obtain ⟨ha, am, an, _⟩ := rs.2 j a r ha0 hr0
      have rm := (mem_rows F F.length r).mp (List.mem_of_getElem? hr0)
      refine n_name ?_
      dsimp only
      refine n_seq ?_
      refine ⟨_, rfl, _, rfl, p, u, a, F, r, rfl, Dq.ex ex _ _ hu1, ok.toFOk, SqL.of (ex _ _ ha), seqL_lt F r [] rm.2, by omega, fun c G2 e2 fc => ?_⟩
      dsimp only
      have fc2 := fc.mono (c := 200) (by omega)
      rcases hz with ⟨rfl, rfl⟩ | ⟨q, fz, hl, hm⟩
      · refine s_if (b := true) (et_is (et_or (a := true) (b := true) (fun H1 e1 Q' k' => ⟨_, rfl, rfl, _, rfl, k' H1 (Ex.refl _)⟩) fun z => nomatch z) rfl) (fun _ G3 e3 => ?_) (fun z => nomatch z)
        refine ⟨_, rfl, (ex.trans e2).trans e3, c, _, _, rfl, .inr ⟨_, fc2.ex e3, ⟨r, ?_, rfl⟩, fun l hl => ?_⟩⟩
        · rw [take_snoc hr0]; simp
        · rw [take_snoc hr0] at hl
          simp only [List.take_zero, List.nil_append, List.mem_singleton] at hl
          rw [hl]
          exact Rat.le_refl
      · obtain ⟨za, rfl⟩ : ∃ za, z = .ref za := by
          obtain ⟨za, e, _⟩ := fz
          exact ⟨za, e⟩
        have fz2 := fz.ex e2
        refine s_if (b := decide (-worthF F r < q)) (et_is (et_or (a := false) (b := decide (-worthF F r < q)) (fun H1 e1 Q' k' => ⟨_, rfl, rfl, _, rfl, k' H1 (Ex.refl _)⟩) fun _ => et_B (fun H1 e1 Q' k' => ⟨_, rfl, _, rfl, c, _, 200, 200, _, q, rfl, fc2.ex e1, fz2.ex e1, by omega, fun H' e' => k' H' e'⟩)) rfl) (fun hc G3 e3 => ?_) (fun hc G3 e3 => ?_)
        · have lt := of_decide_eq_true hc
          refine ⟨_, rfl, (ex.trans e2).trans e3, c, _, _, rfl, .inr ⟨_, fc2.ex e3, ⟨r, ?_, rfl⟩, fun l hl => ?_⟩⟩
          · rw [take_snoc hr0]; simp
          · rw [take_snoc hr0] at hl
            rcases List.mem_append.mp hl with h | h
            · have := hm l h
              grind
            · rw [List.mem_singleton.mp h]
              exact Rat.le_refl
        · have lt := of_decide_eq_false hc
          refine n_next ?_
          obtain ⟨l0, h0, e0⟩ := hl
          refine ⟨(ex.trans e2).trans e3, _, _, _, rfl, .inr ⟨q, fz2.ex e3, ⟨l0, ?_, e0⟩, fun l hl => ?_⟩⟩
          · rw [take_snoc hr0]
            exact List.mem_append_left _ h0
          · rw [take_snoc hr0] at hl
            rcases List.mem_append.mp hl with h | h
            · exact hm l h
            · rw [List.mem_singleton.mp h]
              grind
    · rintro σ G ⟨ex, z, y2, y3, rfl, hz⟩
      rw [List.length_map, asl] at hz
      rcases hz with ⟨e0, _⟩ | ⟨q, fz, ⟨l, hl, e⟩, hm⟩
      · have := List.length_pos_of_mem hi0
        omega
      · rw [List.take_length] at hl hm
        exact ⟨_, rfl, k z q G (e1.trans ex) fz ⟨l, full_iff.mpr hl, e⟩ fun l hl => hm l (full_iff.mp hl)⟩
def spGT (K : PySem.W.Frag) : Sp := fun vs H Q _ => ∃ (p : Addr) (u : V) (l : Addr) (F : List Fk) (ns : List Nat), vs = [u, .ref l] ∧ Dq K p H u (gsD F) ∧ FOk F ∧ SqL K H l (intsV ns) ∧ (∀ n ∈ ns, n < F.length) ∧ ns.length ≤ 8 ∧ ∀ x H', Ex H H' → Dq K p H' x (tmG F ns) → Q x H'
theorem ok__law_group_term (T : Txt K mg) : FnOk P w K mg base CX0 4 T.d__law_group_term.a T.d__law_group_term.fd ["_law_group_here", "_law_order"] (spGT K) := by
  refine T.d__law_group_term.F.ok sc__law_group_term (fun vs H Q E h => ?_) (fun cdv A outer s H vs Q E hr h => ?_)
  · obtain ⟨p, u, l, F, ns, rfl, _⟩ := h
    rfl
  · obtain ⟨p, u, l, F, ns, rfl, hu, ok, hS, hn, l8, k⟩ := h
    refine ⟨_, (pss_cons (ps_set (i := 2) sc__law_group_term.nd rfl (Or.inl rfl) pe_non)
      (pss_cons (ps_for PassesOwn.never rfl (RT.pi_revA (by rfl) T.n_reversed (pv 1)) (pg_name (i := 3) sc__law_group_term.nd rfl (Or.inl rfl)) (pss_cons (ps_par (i := 4) (j := 5) (by rfl) sc__law_group_term.nd rfl rfl (by decide) rfl rfl (pa_cons (pe_ix ix_tup (pe_ix ix_tup (pv 0) (pv 3) (fun _ _ => rfl)) pe_int (fun _ _ => rfl)) (pa_cons (pe_ix ix_tup (pe_ix ix_tup (pv 0) (pv 3) (fun _ _ => rfl)) pe_int (fun _ _ => rfl)) pa_nil)) (by rfl))
      (pss_cons (ps_set (i := 6) sc__law_group_term.nd rfl (Or.inl rfl) (pe_tup (pa_cons (pe_call (ok__law_sub T) (hr.mono (by decide)) (by rfl) T.d__law_sub.g T.d__law_sub.F.kp T.d__law_sub.b .nil pass0 (pa_cons (pe_tup (pa_cons pe_int (pa_cons pe_int pa_nil))) (pa_cons (pv 5) pa_nil))) (pa_cons (pe_tup (pa_cons pe_str pa_nil)) pa_nil))))
      (pss_cons (ps_set (i := 7) sc__law_group_term.nd rfl (Or.inl rfl) (pe_ifExp (pt_cmpR op_isN (pv 2) pe_non (nomark _)) (pe_tup (pa_cons (pv 6) pa_nil)) (pe_tup (pa_cons (pe_tup (pa_cons (pv 5) (pa_cons (pv 2) pa_nil))) (pa_cons (pv 6) pa_nil)))))
      (pss_one (ps_set (i := 2) sc__law_group_term.nd rfl (Or.inl rfl) (pe_tup (pa_cons pe_str (pa_cons (pe_call (ok__law_mul T) (hr.mono (by decide)) (by rfl) T.d__law_mul.g T.d__law_mul.F.kp T.d__law_mul.b .nil pass0 (pa_cons (pe_tup (pa_cons (pe_un un_neg pe_int) (pa_cons pe_int pa_nil))) (pa_cons (pv 4) pa_nil))) (pa_cons (pv 7) pa_nil))))))))))
      (pss_one (ps_ret (pv 2))))), ?_⟩
    refine n_seq ?_
    refine n_c ?_
    dsimp only
    refine n_seq ?_
    refine ⟨_, rfl, l, _, rfl, .inl ⟨hS, ?_⟩⟩
    refine for_it (walk_rev (K := K) (a := l) (xs := intsV ns)) (fun i σ G => Ex H G ∧ ∃ z y3 y4 y5 y6 y7, σ = [some u, some (.ref l), some z, y3, y4, y5, y6, y7] ∧ Dq K p G z (tmG F (ns.drop (ns.length - i)))) ⟨Ex.refl _, _, none, none, none, none, none, rfl, ?_⟩ (fun i σ G _ h => ex_l h.1 hS) ?_ ?_
    · rw [Nat.sub_zero, List.drop_length]
      exact .non
    · rintro i x σ G G' hi ⟨ex, z, y3, y4, y5, y6, y7, rfl, qz⟩ ⟨rfl, hx⟩
      rw [intsV_len] at hi hx
      obtain ⟨n, hn1, rfl⟩ := intsV_at hx
      have nl := hn n (List.mem_of_getElem? hn1)
      have dd : ns.drop (ns.length - (i + 1)) = n :: ns.drop (ns.length - i) := by
        have e1 : ns.length - (i + 1) = ns.length - 1 - i := by omega
        have e2 : ns.length - i = ns.length - 1 - i + 1 := by omega
        rw [e1, e2]
        rw [List.getElem?_eq_some_iff] at hn1
        obtain ⟨h1, rfl⟩ := hn1
        exact List.drop_eq_getElem_cons h1
      refine n_name ?_
      dsimp only
      refine n_seq ?_
      have huG := Dq.ex ex _ _ hu
      refine (show tOp (rIxT K) (tOp (rIxT K) (tVar 0) (tVar 3)) (tC (.int 0)) [some u, some (.ref l), some z, some (.int (n : Nat)), y4, y5, y6, y7] G' _ from ?_)
      refine (ep_gpr (i := 0) (j := 3) ok rfl huG rfl nl) G' (Ex.refl _) _ fun x4 G1 e1 f4 => ?_
      refine (show tOp (rIxT K) (tOp (rIxT K) (tVar 0) (tVar 3)) (tC (.int 1)) [some u, some (.ref l), some z, some (.int (n : Nat)), y4, y5, y6, y7] G1 _ from ?_)
      refine (ep_gfa (i := 0) (j := 3) ok rfl (Dq.ex e1 _ _ huG) rfl nl) G1 (Ex.refl _) _ fun x5 G2 e2 f5 => ?_
      refine ⟨x4, x5, rfl, ?_⟩
      dsimp only
      have f42 := f4.ex e2
      have qz2 := Dq.ex (e1.trans e2) _ _ qz
      refine n_seq ?_
      refine s_asgP (ed_tup (K := K) (p := p) (ds := [frd (1 - facF F n), .tuple [.str "end"]]) (eds_cons (ed_fr (b := 12) (ep_2L (K := K) (n := 12) (ep_lit (q := 1) (b := 1) rfl rfl ⟨by decide, by decide⟩) (ep_var rfl f5) trivial (by omega) rfl)) (eds_cons (ed_tup (ds := [.str "end"]) (eds_cons ed_str eds_nil) (by show 1 ≤ 1000; decide)) eds_nil)) (by show 2 ≤ 1000; decide)) fun w6 G3 e3 q6 => ?_
      dsimp only
      have qz3 := Dq.ex e3 _ _ qz2
      have f43 := f42.ex e3
      have f53 := f5.ex e3
      refine n_seq ?_
      have fin : ∀ (w7 : V) (G4 : Hp) (d7 : PyData), Ex G3 G4 → Dq K p G4 w7 d7 → tmG F (n :: ns.drop (ns.length - i)) = .tuple [.str "step", frd (payF F n), d7] →
          tAsg (tTup (tCons (tC (V.str (Str.ofString "step"))) (tCons (tCall (sp2L K (fun x => True) fun q r => q * r) [] E0 (tCons (tTup (tCons (tUn (rU fun i => V.int (-i)) (tC (V.int 1))) (tCons (tC (V.int 1)) tNil))) (tCons (tVar 4) tNil))) (tCons (tVar 7) tNil)))) (gName 2) { nx := fun σ G => Ex H G ∧ ∃ z y3 y4 y5 y6 y7, σ = [some u, some (V.ref l), some z, y3, y4, y5, y6, y7] ∧ Dq K p G z (tmG F (List.drop (ns.length - (i + 1)) ns)), rt := Q, bk := tRet (tVar 2) { nx := fun x H' => Q V.non H', rt := Q }, ct := fun σ G => Ex H G ∧ ∃ z y3 y4 y5 y6 y7, σ = [some u, some (V.ref l), some z, y3, y4, y5, y6, y7] ∧ Dq K p G z (tmG F (List.drop (ns.length - (i + 1)) ns)) }
            [some u, some (.ref l), some z, some (.int (n : Nat)), some x4, some x5, some w6, some w7] G4 := fun w7 G4 d7 e4 q7 he => by
        have mn : ∀ {σ : L2.St}, σ[4]? = some (some x4) → EvP (tCall (sp2L K (fun x => True) fun q r => q * r) [] E0 (tCons (tTup (tCons (tUn (rU fun i => V.int (-i)) (tC (V.int 1))) (tCons (tC (V.int 1)) tNil))) (tCons (tVar 4) tNil))) σ G4 (Fr K 12 (payF F n)) := fun h1 => ep_is (ep_2L (K := K) (q := -1) (r := -payF F n) (n := 12) (b := 1) (ep_tup (ev_neg ev_c) ev_c rfl rfl ⟨by decide, by decide⟩) (ep_var h1 (f43.ex e4)) trivial (by omega) rfl) (by grind)
        refine s_asgP (ed_tup (K := K) (p := p) (ds := [.str "step", frd (payF F n), d7]) (eds_cons ed_str (eds_cons (ed_fr (mn rfl)) (eds_cons (ed_var rfl q7) eds_nil))) (by show 3 ≤ 1000; decide)) fun w2 G5 e5 q2 => ?_
        refine ⟨((((ex.trans e1).trans e2).trans e3).trans e4).trans e5, w2, _, _, _, _, _, rfl, ?_⟩
        rw [dd, he]
        exact q2
      cases hr' : ns.drop (ns.length - i) with
      | nil =>
        rw [hr'] at qz3 fin
        have hz : z = .non := by cases qz3; rfl
        subst hz
        refine ⟨_, rfl, rfl, _, rfl, iteT ?_⟩
        have ev7 : EvD K p (tTup (tCons (tVar 6) tNil)) [some u, some (.ref l), some .non, some (.int (n : Nat)), some x4, some x5, some w6, y7] G3 (.tuple [.tuple [frd (1 - facF F n), .tuple [.str "end"]]]) := ed_tup (eds_cons (ed_var (i := 6) (v := w6) rfl q6) eds_nil) (by show 1 ≤ 1000; decide)
        refine (show tTup (tCons (tVar 6) tNil) _ G3 _ from ?_)
        refine ev7 G3 (Ex.refl _) _ fun w7 G4 e4 q7 => ?_
        exact fin w7 G4 _ e4 q7 rfl
      | cons j r =>
        rw [hr'] at qz3 fin
        have nn : isNon (tmG F (j :: r)) = false := by cases r <;> rfl
        have zn : decide (z = .non) = false := by rw [qz3.isN, nn]
        refine ⟨_, rfl, rfl, _, rfl, ?_⟩
        rw [zn]
        refine iteF ?_
        have ev7 : EvD K p (tTup (tCons (tTup (tCons (tVar 5) (tCons (tVar 2) tNil))) (tCons (tVar 6) tNil))) [some u, some (.ref l), some z, some (.int (n : Nat)), some x4, some x5, some w6, y7] G3 (.tuple [.tuple [frd (facF F n), tmG F (j :: r)], .tuple [frd (1 - facF F n), .tuple [.str "end"]]]) := ed_tup (eds_cons (ed_tup (eds_cons (ed_var (i := 5) (v := x5) rfl f53.dq) (eds_cons (ed_var (i := 2) (v := z) rfl qz3) eds_nil)) (by show 2 ≤ 1000; decide)) (eds_cons (ed_var (i := 6) (v := w6) rfl q6) eds_nil)) (by show 2 ≤ 1000; decide)
        refine (show tTup (tCons (tTup (tCons (tVar 5) (tCons (tVar 2) tNil))) (tCons (tVar 6) tNil)) _ G3 _ from ?_)
        refine ev7 G3 (Ex.refl _) _ fun w7 G4 e4 q7 => ?_
        exact fin w7 G4 _ e4 q7 rfl
    · rintro σ G ⟨ex, z, y3, y4, y5, y6, y7, rfl, qz⟩
      rw [intsV_len, Nat.sub_self, List.drop_zero] at qz
      exact ⟨_, rfl, k z G ex qz⟩
end
/-! ### what comes of a call -/
def tb__law_error (K : PySem.W.Frag) (B Pj : Addr) (Ts : List Addr) : WX → TS := fun W => tIfS (tTest (tOp rEq (tVar 0) (tC (.int 0)))) (tAsg (tCallS (spGC K Ts B Pj (Rco K)) (WE W) (tCons (tVar 1) (tCons (tVar 2) tNil))) (gName 3))
  (tIfS (tTest (tOp rEq (tVar 0) (tC (.int 1)))) (tAsg (tCallS (spGC K Ts B Pj (Rte K)) (WE W) (tCons (tVar 1) (tCons (tVar 2) tNil))) (gName 3))
  (tIfS (tTest (tOp rEq (tVar 0) (tC (.int 2)))) (tAsg (tCallS (spGO K Ts B) (WE W) (tCons (tVar 1) (tCons (tVar 2) tNil))) (gName 3)) (tAsg (tCallS (spLO K Ts B) (WE W) (tCons (tVar 1) tNil)) (gName 3))))
def ts__law_error (K : PySem.W.Frag) (B Pj : Addr) (_ : List Addr) : Addr → Value → Option Addr → TS := fun a cls dd => tSeq (tAsg (tIf (tB (tCB (rIsD K a cls dd) (tCons (tVar 4) (tCons (tC (.ref B)) tNil)))) (tLstN (tCons (tC (.str "BadGroup")) tNil)) (tLstN tNil)) (gName 5))
  (tSeq (tIfS (tB (tCB (rIsD K a cls dd) (tCons (tVar 4) (tCons (tC (.ref Pj)) tNil)))) (tDrop (tBM K "list" rAppend (tVar 5) (tCons (tC (.str "BadGroupOrder")) tNil))) tNext) (tRet (tTup (tCons (tVar 5) (tCons (tXfE K a cls dd "value" (tVar 4)) tNil)))))
def fine (d : PyData) : PyData := .tuple [.str "fine", d]
def wrong (x : Str) (d : PyData) : PyData := .tuple [.list [.str x], d]
/-- an error told: its value is the very one -/
def Wr (K : PySem.W.Frag) (p : Addr) (H : Hp) (x : V) (n : Str) (u : V) (d : PyData) : Prop := ∃ t l, x = .ref t ∧ SqT K H t [.ref l, u] ∧ Dq K p H x (wrong n d)
section
variable {P : Program} {w : World} {K : PySem.W.Frag} {mg : Str → Option Value} {base : Heap}
def spErr (K : PySem.W.Frag) (Ts : List Addr) : Sp := fun vs H Q _ => ∃ (p : Addr) (c : Int) (u v : V) (d e : PyData) (xp : List V), vs = [.int c, u, v] ∧ H p = some (.lst xp) ∧ Dq K p H u d ∧ Dq K p H v e ∧ TBs Ts H ∧
  ((groupB d = false ∧ ∀ x H', ExT H H' → TBs Ts H' → Wr K p H' x "BadGroup" u d → Q x H') ∨ ∃ F, d = gsD F ∧ GrpOk F ∧
    ((seqB F e = false ∧ (c = 0 ∨ c = 1) ∧ ∀ x H', ExT H H' → TBs Ts H' → Wr K p H' x "BadGroupOrder" v e → Q x H') ∨ ∃ ns, e = .list (intsD ns) ∧ seqB F e = true ∧
      ((c = 0 ∧ ∀ x H', ExT H H' → TBs Ts H' → Dq K p H' x (fine (frd (-worthF F ns))) → Q x H') ∨ (c = 1 ∧ ∀ x H', ExT H H' → TBs Ts H' → Dq K p H' x (fine (tmG F ns)) → Q x H') ∨
       (c = 2 ∧ ∀ x H', ExT H H' → TBs Ts H' → Dq K p H' x (fine (.bool true)) → Q x H'))))
theorem ok__law_error (T : Txt K mg) (tb : GxR.TabB base mg T.c_is_group T.P_is_group) : FnOk P w K mg base CX0 11 T.d__law_error.a T.d__law_error.fd ["_law_call", "_law_group_here", "_law_order"] (spErr K [T.P_is_group]) := by
  refine T.d__law_error.F.ok sc__law_error (fun vs H Q E h => ?_) (fun cdv A outer s H vs Q E hr h => ?_)
  · obtain ⟨p, c, u, v, d, e, xp, rfl, _⟩ := h
    rfl
  · obtain ⟨p, c, u, v, d, e, xp, rfl, hxp, hd, he, ht, hc⟩ := h
    refine ⟨_, (pss_cons (ps_set (i := 3) sc__law_error.nd rfl (Or.inl rfl) pe_non)
      (pss_cons (ps_try_as (i := 4) (tb := tb__law_error K T.E_BadGroup.C T.E_BadGroupOrder.C [T.P_is_group]) (ts := ts__law_error K T.E_BadGroup.C T.E_BadGroupOrder.C [T.P_is_group]) (Wout := fun _ _ _ _ => False) rfl rfl sc__law_error.nd rfl rfl ⟨by rfl, by decide, .inl T.M.g⟩ takes0 (fun W pn xe tk _ => (pss_one (ps_if (pt_cmpR op_eq (pv 0) pe_int (nomark _)) (pss_one (ps_set (i := 3) sc__law_error.nd rfl (Or.inl rfl) (pe_callS (ok_group_cost T tb) (hr.mono (by decide)) (by rfl) T.d_group_cost.g T.d_group_cost.F.kp T.d_group_cost.b (fun σ => passAt tk σ) (pa_cons (pv 1) (pa_cons (pv 2) pa_nil))))) (pss_one (ps_if (pt_cmpR op_eq (pv 0) pe_int (nomark _)) (pss_one (ps_set (i := 3) sc__law_error.nd rfl (Or.inl rfl) (pe_callS (ok_group_term T tb) (hr.mono (by decide)) (by rfl) T.d_group_term.g T.d_group_term.F.kp T.d_group_term.b (fun σ => passAt tk σ) (pa_cons (pv 1) (pa_cons (pv 2) pa_nil))))) (pss_one (ps_if (pt_cmpR op_eq (pv 0) pe_int (nomark _)) (pss_one (ps_set (i := 3) sc__law_error.nd rfl (Or.inl rfl) (pe_callS (ok_is_group_order T tb) (hr.mono (by decide)) (by rfl) T.d_is_group_order.g T.d_is_group_order.F.kp T.d_is_group_order.b (fun σ => passAt tk σ) (pa_cons (pv 1) (pa_cons (pv 2) pa_nil))))) (pss_one (ps_set (i := 3) sc__law_error.nd rfl (Or.inl rfl) (pe_callS (ok_least_order T tb) (hr.mono (by decide)) (by rfl) T.d_least_order.g T.d_least_order.F.kp T.d_least_order.b (fun σ => passAt tk σ) (pa_cons (pv 1) pa_nil))))))))))) (fun a oe cls d pn hz hf => (pss_cons (ps_set (i := 5) sc__law_error.nd rfl (Or.inl rfl) (pe_ifExp (pt_val (pe_callB (call_isD hz hf) (by rfl) T.n_isinstance (by decide +kernel) (pa_cons (pv 4) (pa_cons (pe_glob (v := .ref T.E_BadGroup.C) rfl T.E_BadGroup.g rfl) pa_nil)))) (pe_lstN (pa_cons pe_str pa_nil)) (pe_lstN pa_nil)))
      (pss_cons (ps_if (pt_val (pe_callB (call_isD hz hf) (by rfl) T.n_isinstance (by decide +kernel) (pa_cons (pv 4) (pa_cons (pe_glob (v := .ref T.E_BadGroupOrder.C) rfl T.E_BadGroupOrder.g rfl) pa_nil)))) (pss_one (ps_expr (pe_bm PySem.F.plainAttrs_list PySem.F.slot_list_append PySem.F.type_list_append mt_append (pv 5) (pa_cons pe_str pa_nil)))) pss_nil)
      (pss_one (ps_ret (pe_tup (pa_cons (pv 5) (pa_cons (pe_xfE hz hf (pv 4)) pa_nil)))))))))
      (pss_one (ps_ret (pe_tup (pa_cons pe_str (pa_cons (pv 3) pa_nil))))))), ?_⟩
    refine n_seq ?_
    refine n_c ?_
    dsimp only
    refine n_seq ?_
    -- what a suite tells
    have suA : ∀ (G : Hp) (dd a : Addr) (kn : Str) (D : Ends), D.rt = Q → ExT H G → TBs [T.P_is_group] G → G dd = some (.xd (kd kn u)) → (∀ x H', ExT H H' → TBs [T.P_is_group] H' → Wr K p H' x "BadGroup" u d → Q x H') →
        ts__law_error K T.E_BadGroup.C T.E_BadGroupOrder.C [T.P_is_group] a (.ref T.E_BadGroup.C) (some dd) D [some (.int c), some u, some v, some .non, some (.ref a), none] G := fun G dd a kn D hD ex tg hdd kk => by
      refine n_seq ?_
      refine ⟨.ref a, rfl, T.E_BadGroup.C, T.E_BadGroup.C, dd, _, true, rfl, rfl, T.E_BadGroup.x.ec, rfl, hdd, kit_one _, true, rfl, iteT ?_⟩
      refine ⟨by show 1 ≤ sizeLine; decide, fun l fl fm => ?_⟩
      have x1 := Ex.new (o := .lst [.str "BadGroup"]) fl
      dsimp only
      refine n_seq ?_
      refine ⟨.ref a, rfl, T.E_BadGroup.C, T.E_BadGroupOrder.C, dd, _, false, rfl, rfl, T.E_BadGroup.x.ec, rfl, x1 _ _ hdd, (T.E_BadGroup.x.other T.E_BadGroupOrder.x (by decide)), false, rfl, iteF ?_⟩
      refine n_next ?_
      dsimp only
      refine ⟨.ref l, rfl, .ref a, rfl, rfl, T.E_BadGroup.C, dd, _, u, rfl, T.E_BadGroup.x.xf, T.E_BadGroup.x.noV, rfl, x1 _ _ hdd, rfl, by show 2 ≤ sizeLine; decide, fun t ft => ?_⟩
      have x2 := Ex.new (o := .tup [.ref l, u]) ft
      have X := ex.trans (Ex.t (x1.trans x2))
      show D.rt _ _
      rw [hD]
      exact kk _ _ X (tg.ex (x1.trans x2)) ⟨t, l, rfl, SqT.of upd_same, (.tup (SqT.of upd_same) (.cons (.lst (ne_of_none (ex.l hxp) fl).symm fm (x2 _ _ upd_same) (.cons (.str _) .nil)) (.cons (Dq.xt X _ _ hd) .nil)))⟩
    have suB : ∀ (G : Hp) (dd a : Addr) (kn : Str) (D : Ends), D.rt = Q → ExT H G → TBs [T.P_is_group] G → G dd = some (.xd (kd kn v)) → (∀ x H', ExT H H' → TBs [T.P_is_group] H' → Wr K p H' x "BadGroupOrder" v e → Q x H') →
        ts__law_error K T.E_BadGroup.C T.E_BadGroupOrder.C [T.P_is_group] a (.ref T.E_BadGroupOrder.C) (some dd) D [some (.int c), some u, some v, some .non, some (.ref a), none] G := fun G dd a kn D hD ex tg hdd kk => by
      refine n_seq ?_
      refine ⟨.ref a, rfl, T.E_BadGroupOrder.C, T.E_BadGroup.C, dd, _, false, rfl, rfl, T.E_BadGroupOrder.x.ec, rfl, hdd, (T.E_BadGroupOrder.x.other T.E_BadGroup.x (by decide)), false, rfl, iteF ?_⟩
      refine ⟨by show 0 ≤ sizeLine; decide, fun l fl fm => ?_⟩
      have x1 := Ex.new (o := .lst []) fl
      dsimp only
      refine n_seq ?_
      refine ⟨.ref a, rfl, T.E_BadGroupOrder.C, T.E_BadGroupOrder.C, dd, _, true, rfl, rfl, T.E_BadGroupOrder.x.ec, rfl, x1 _ _ hdd, kit_one _, true, rfl, iteT ?_⟩
      refine ⟨.ref l, rfl, .inl ⟨rfl, _, SqL.of upd_same⟩, l, [], .str "BadGroupOrder", rfl, rfl, upd_same, by show 0 < sizeLine; decide, ?_⟩
      have x2 : Ex G (upd (upd G l (.lst [])) l (.lst ([] ++ [.str "BadGroupOrder"]))) := Ex.mut x1 fl
      dsimp only
      refine ⟨.ref l, rfl, .ref a, rfl, rfl, T.E_BadGroupOrder.C, dd, _, v, rfl, T.E_BadGroupOrder.x.xf, T.E_BadGroupOrder.x.noV, rfl, x2 _ _ hdd, rfl, by show 2 ≤ sizeLine; decide, fun t ft => ?_⟩
      have x3 := Ex.new (o := .tup [.ref l, v]) ft
      have X := ex.trans (Ex.t (x2.trans x3))
      show D.rt _ _
      rw [hD]
      exact kk _ _ X (tg.ex (x2.trans x3)) ⟨t, l, rfl, SqT.of upd_same, (.tup (SqT.of upd_same) (.cons (.lst (ne_of_none (ex.l hxp) fl).symm fm (x3 _ _ upd_same) (.cons (.str _) .nil)) (.cons (Dq.xt X _ _ he) .nil)))⟩
    refine ⟨.int c, rfl, rfl, _, rfl, ?_⟩
    rcases hc with ⟨h1, k1⟩ | ⟨F, rfl, ok, hc⟩
    · refine ite2 (fun _ => ?_) (fun _ => ?_)
      · refine ⟨u, rfl, v, rfl, p, u, v, d, e, rfl, hd, he, ht, .inl ⟨h1, fun H1 e1 t1 => ?_⟩⟩
        intro dd kn H' ex hdd
        exact ⟨true, T.E_BadGroup.x.exm, fun _ a ha => suA H' dd a kn _ rfl (e1.trans (Ex.t ex)) (t1.ex ex) hdd k1, fun z => nomatch z⟩
      · refine ⟨.int c, rfl, rfl, _, rfl, ?_⟩
        refine ite2 (fun _ => ?_) (fun _ => ?_)
        · refine ⟨u, rfl, v, rfl, p, u, v, d, e, rfl, hd, he, ht, .inl ⟨h1, fun H1 e1 t1 => ?_⟩⟩
          intro dd kn H' ex hdd
          exact ⟨true, T.E_BadGroup.x.exm, fun _ a ha => suA H' dd a kn _ rfl (e1.trans (Ex.t ex)) (t1.ex ex) hdd k1, fun z => nomatch z⟩
        · refine ⟨.int c, rfl, rfl, _, rfl, ?_⟩
          refine ite2 (fun _ => ?_) (fun _ => ?_)
          · refine ⟨u, rfl, v, rfl, p, u, v, d, e, rfl, hd, he, ht, .inl ⟨h1, fun H1 e1 t1 => ?_⟩⟩
            intro dd kn H' ex hdd
            exact ⟨true, T.E_BadGroup.x.exm, fun _ a ha => suA H' dd a kn _ rfl (e1.trans (Ex.t ex)) (t1.ex ex) hdd k1, fun z => nomatch z⟩
          · refine ⟨u, rfl, p, u, d, rfl, hd, ht, .inl ⟨h1, fun H1 e1 t1 => ?_⟩⟩
            intro dd kn H' ex hdd
            exact ⟨true, T.E_BadGroup.x.exm, fun _ a ha => suA H' dd a kn _ rfl (e1.trans (Ex.t ex)) (t1.ex ex) hdd k1, fun z => nomatch z⟩
    rcases hc with ⟨h2, hc, k2⟩ | ⟨ns, rfl, h2, hc⟩
    · rcases hc with rfl | rfl
      · refine iteT ?_
        refine ⟨u, rfl, v, rfl, p, u, v, _, e, rfl, hd, he, ht, .inr ⟨F, rfl, ok, .inl ⟨h2, fun H1 e1 t1 => ?_⟩⟩⟩
        intro dd kn H' ex hdd
        exact ⟨true, T.E_BadGroupOrder.x.exm, fun _ a ha => suB H' dd a kn _ rfl (e1.trans (Ex.t ex)) (t1.ex ex) hdd k2, fun z => nomatch z⟩
      · refine iteF ?_
        refine ⟨.int 1, rfl, rfl, _, rfl, iteT ?_⟩
        refine ⟨u, rfl, v, rfl, p, u, v, _, e, rfl, hd, he, ht, .inr ⟨F, rfl, ok, .inl ⟨h2, fun H1 e1 t1 => ?_⟩⟩⟩
        intro dd kn H' ex hdd
        exact ⟨true, T.E_BadGroupOrder.x.exm, fun _ a ha => suB H' dd a kn _ rfl (e1.trans (Ex.t ex)) (t1.ex ex) hdd k2, fun z => nomatch z⟩
    · rcases hc with ⟨rfl, k1⟩ | ⟨rfl, k1⟩ | ⟨rfl, k1⟩
      · refine iteT ?_
        refine ⟨u, rfl, v, rfl, p, u, v, _, _, rfl, hd, he, ht, .inr ⟨F, rfl, ok, .inr ⟨ns, rfl, h2, fun x H1 e1 t1 fx => ?_⟩⟩⟩
        dsimp only
        refine (ed_tup (K := K) (p := p) (eds_cons ed_str (eds_cons (ed_var rfl (Fr.dq (b := 200) (K := K) (p := p) fx)) eds_nil)) (by show 2 ≤ 1000; decide)) H1 (Ex.refl _) _ fun y H2 e2 qy => ?_
        exact k1 y H2 (e1.trans (Ex.t e2)) (t1.ex e2) qy
      · refine iteF ?_
        refine ⟨.int 1, rfl, rfl, _, rfl, iteT ?_⟩
        refine ⟨u, rfl, v, rfl, p, u, v, _, _, rfl, hd, he, ht, .inr ⟨F, rfl, ok, .inr ⟨ns, rfl, h2, fun x H1 e1 t1 qx => ?_⟩⟩⟩
        dsimp only
        refine (ed_tup (K := K) (p := p) (eds_cons ed_str (eds_cons (ed_var rfl (qx p)) eds_nil)) (by show 2 ≤ 1000; decide)) H1 (Ex.refl _) _ fun y H2 e2 qy => ?_
        exact k1 y H2 (e1.trans (Ex.t e2)) (t1.ex e2) qy
      · refine iteF ?_
        refine ⟨.int 2, rfl, rfl, _, rfl, iteF ?_⟩
        refine ⟨.int 2, rfl, rfl, _, rfl, iteT ?_⟩
        refine ⟨u, rfl, v, rfl, p, u, v, _, _, rfl, hd, he, ht, .inr ⟨F, rfl, ok, fun H1 e1 t1 => ?_⟩⟩
        rw [h2]
        dsimp only
        refine (ed_tup (K := K) (p := p) (eds_cons ed_str (eds_cons (ed_var rfl (.bl true)) eds_nil)) (by show 2 ≤ 1000; decide)) H1 (Ex.refl _) _ fun y H2 e2 qy => ?_
        exact k1 y H2 (e1.trans (Ex.t e2)) (t1.ex e2) qy
end
/-- a tuple cut, the same one or a new one -/
theorem rd_slA {K : PySem.W.Frag} {b : Addr} {xs : List V} {lo hi : Option Int} {H : Hp} {Q : VK} (hS : SqT K H b xs) (k : ∀ u H', Ex H H' → SqT K H' u (cutV xs lo hi) → Q (.ref u) H') : rSlA K (.ref b) lo hi H Q := by
  refine ⟨b, xs, rfl, hS, fun h => ?_, fun _ q hq => k q _ (Ex.new hq) (SqT.of upd_same)⟩
  refine k b H (Ex.refl H) ?_
  have e : cutV xs lo hi = xs := by
    unfold cutV
    rw [h.1, h.2, List.drop_zero, Nat.sub_zero, List.take_of_length_le (Nat.le_refl _)]
  rw [e]
  exact hS
theorem cut_lo (xs : List V) (n : Nat) : cutV xs (some (n : Int)) none = xs.drop n := by
  have e : HT.sIx xs.length 0 (some (n : Int)) = min n xs.length := HT.sIx_nat xs.length 0 n
  unfold cutV
  rw [e, HT.sIx_none]
  by_cases h : n ≤ xs.length
  · rw [Nat.min_eq_left h, List.take_of_length_le (by rw [List.length_drop]; omega)]
  · rw [Nat.min_eq_right (by omega), List.drop_of_length_le (Nat.le_refl _), List.drop_of_length_le (by omega)]
    simp
theorem cut_hi (xs : List V) (n : Nat) : cutV xs none (some (n : Int)) = xs.take n := by
  have e : HT.sIx xs.length xs.length (some (n : Int)) = min n xs.length := HT.sIx_nat xs.length xs.length n
  unfold cutV
  rw [e, HT.sIx_none, List.drop_zero, Nat.sub_zero]
  by_cases h : n ≤ xs.length
  · rw [Nat.min_eq_left h]
  · rw [Nat.min_eq_right (by omega), List.take_of_length_le (Nat.le_refl _), List.take_of_length_le (by omega)]
theorem sl_lo {K : PySem.W.Frag} {b : Addr} {xs : List V} {σ : L2.St} {i n : Nat} {tn : TE} {H : Hp} {Q : VK} (hv : σ[i]? = some (some (.ref b))) (hS : SqT K H b xs) (hn : Ev tn σ H (.int (n : Int))) (k : ∀ u H', Ex H H' → SqT K H' u (xs.drop n) → Q (.ref u) H') : tSl (rSlA K) (tVar i) (tPart tn) tNoPart σ H Q := by
  refine ⟨_, hv, ?_⟩
  refine hn H (Ex.refl H) _ fun H1 e1 => ⟨_, rfl, ?_⟩
  show rSlA K (.ref b) (some (n : Int)) none H1 Q
  refine rd_slA (ex_t e1 hS) fun u H2 e2 h => k u H2 (e1.trans e2) ?_
  rwa [cut_lo] at h
theorem sl_hi {K : PySem.W.Frag} {b : Addr} {xs : List V} {σ : L2.St} {i n : Nat} {tn : TE} {H : Hp} {Q : VK} (hv : σ[i]? = some (some (.ref b))) (hS : SqT K H b xs) (hn : Ev tn σ H (.int (n : Int))) (k : ∀ u H', Ex H H' → SqT K H' u (xs.take n) → Q (.ref u) H') : tSl (rSlA K) (tVar i) tNoPart (tPart tn) σ H Q := by
  refine ⟨_, hv, ?_⟩
  refine hn H (Ex.refl H) _ fun H1 e1 => ⟨_, rfl, ?_⟩
  show rSlA K (.ref b) none (some (n : Int)) H1 Q
  refine rd_slA (ex_t e1 hS) fun u H2 e2 h => k u H2 (e1.trans e2) ?_
  rwa [cut_hi] at h
theorem ev_lenL {K : PySem.W.Frag} {l : Addr} {xs : List V} {σ : L2.St} {i : Nat} {H : Hp} (hv : σ[i]? = some (some (.ref l))) (hl : H l = some (.lst xs)) : Ev (tCB (fun xs H_1 Q => ∃ p ys, xs = [V.ref p] ∧ (SqL K H_1 p ys ∨ SqT K H_1 p ys) ∧ Q (V.int ys.length) H_1) (tCons (tVar i) tNil)) σ H (.int (xs.length : Int)) := fun H1 e Q k =>
  ⟨_, hv, l, xs, rfl, .inl (SqL.of (e _ _ hl)), k H1 (Ex.refl H1)⟩
theorem DqAll.drop {K : PySem.W.Frag} {p : Addr} {H : Hp} : ∀ {xs : List V} {ds : List PyData}, DqAll K p H xs ds → ∀ n, DqAll K p H (xs.drop n) (ds.drop n)
  | _, _, h, 0 => h
  | _, _, .nil, _ + 1 => .nil
  | _, _, .cons _ hs, n + 1 => hs.drop n
theorem DqAll.cut {K : PySem.W.Frag} {p : Addr} {H : Hp} : ∀ (i : Nat) {xs : List V} {ds : List PyData}, DqAll K p H xs ds → DqAll K p H (xs.take i) (ds.take i)
  | 0, _, _, _ => .nil
  | _ + 1, _, _, .nil => .nil
  | i + 1, _, _, .cons h hs => .cons h (hs.cut i)
/-! ### values put together of data -/
section
variable {K : PySem.W.Frag} {p a : Addr} {σ : L2.St} {H H' : Hp} {N : Nat} {te ta tb : TE} {v : V} {d : PyData} {ds es : List PyData}
mutual
theorem Dq.exb {K : PySem.W.Frag} {p : Addr} {H H' : Hp} {xs : List V} (hp : H p = some (.lst xs)) (e : ExB p H H') : ∀ (d : PyData) (v : V), Dq K p H v d → Dq K p H' v d
  | _, _, .non => .non
  | _, _, .bl b => .bl b
  | _, _, .int i => .int i
  | _, _, .str x => .str x
  | _, _, .lst n m h hs => .lst n m (e _ _ n h) (DqAll.exb hp e _ _ hs)
  | _, _, .tup h hs => .tup (tup_lst hp e h) (DqAll.exb hp e _ _ hs)
  | _, _, .emp h => .emp (e _ _ (by rintro rfl; rw [hp] at h; cases h) h)
theorem DqAll.exb {K : PySem.W.Frag} {p : Addr} {H H' : Hp} {xs : List V} (hp : H p = some (.lst xs)) (e : ExB p H H') : ∀ (ds : List PyData) (vs : List V), DqAll K p H vs ds → DqAll K p H' vs ds
  | _, _, .nil => .nil
  | _, _, .cons h hs => .cons (Dq.exb hp e _ _ h) (DqAll.exb hp e _ _ hs)
end
end
section
variable {K : PySem.W.Frag} {p a : Addr} {σ : L2.St} {H H' : Hp} {N : Nat} {te ta tb : TE} {v : V} {d : PyData} {ds es : List PyData}
/-- one of some data -/
theorem rd_pickN {E : XK} {tm : TA} {Q : VK} (hm : EvDs K p tm σ H ds) (hp : Pen H p a N) (h0 : σ[0]? = some (some (.ref p))) (l0 : 0 < ds.length) (l1 : ds.length ≤ 900) (hN : N ≤ 980)
    (k : ∀ v d H', d ∈ ds → ExB p H H' → Pen H' p a (N + 1) → Dq K p H' v d → Q v H') : tCall (spOne K) [] E (tCons (tVar 0) (tCons (tLstN tm) tNil)) σ H Q := by
  refine ⟨_, h0, ?_⟩
  refine hm H (Ex.refl H) _ fun vs H1 e1 qs => ?_
  have vl := qs.len
  refine ⟨Nat.le_of_lt (small1000 (by omega)), fun l fl _ => ?_⟩
  have x1 := Ex.new (o := .lst vs) fl
  obtain ⟨xp, hxp⟩ := (hp.ex e1).hasP
  have nlp : l ≠ p := (ne_of_none hxp fl).symm
  refine ⟨p, a, l, vs, N, rfl, hp.ex (e1.trans x1), upd_same, nlp, by omega, by omega, by omega, fun x H2 hx eb hp2 => ?_⟩
  obtain ⟨d, hd, qd⟩ := (DqAll.ex x1 _ _ qs).mem x hx
  exact k x d H2 hd ((Ex.b (e1.trans x1)).trans eb) hp2 (Dq.exb (x1 _ _ hxp) eb _ _ qd)
theorem ed_catA (h : EvD K p ta σ H (.tuple ds)) (g : EvD K p tb σ H (.tuple es)) (hl : ds.length + es.length ≤ 1000) : EvD K p (tOp (rCatA K) ta tb) σ H (.tuple (ds ++ es)) := fun H1 e1 Q k =>
  h H1 e1 _ fun x H2 e2 q => g H2 (e1.trans e2) _ fun y H3 e3 r => by
    obtain ⟨a, xs, rfl, hS, hA⟩ := (Dq.ex e3 _ _ q).seq
    obtain ⟨b, ys, rfl, hT, hB⟩ := r.seq
    have xl := hA.len
    have yl := hB.len
    have e23 := e2.trans e3
    refine ⟨a, b, xs, ys, rfl, rfl, hS, hT, Nat.le_of_lt (small1000 (by omega)), fun z => ?_, fun _ z => ?_, fun _ _ t ft => ?_⟩
    · subst z
      cases hA
      exact k _ _ e23 (.tup hT hB)
    · subst z
      cases hB
      refine k (.ref a) H3 e23 ?_
      rw [List.append_nil]
      exact .tup hS hA
    · have x1 := Ex.new (o := .tup (xs ++ ys)) ft
      exact k _ _ (e23.trans x1) (.tup (SqT.of upd_same) ((DqAll.ex x1 _ _ hA).append (DqAll.ex x1 _ _ hB)))
theorem ed_slHi {i n : Nat} {tn : TE} (hv : σ[i]? = some (some v)) (hd : Dq K p H v (.tuple ds)) (hn : Ev tn σ H (.int (n : Int))) : EvD K p (tSl (rSlA K) (tVar i) tNoPart (tPart tn)) σ H (.tuple (ds.take n)) := fun H1 e1 Q k => by
  obtain ⟨b, xs, rfl, hS, hA⟩ := (Dq.ex e1 _ _ hd).seq
  exact sl_hi (K := K) (n := n) hv hS (fun H2 e2 Q2 k2 => hn H2 (e1.trans e2) Q2 k2) fun u H2 e2 h => k _ H2 e2 (.tup h ((DqAll.ex e2 _ _ hA).cut n))
theorem ed_slLo {i n : Nat} {tn : TE} (hv : σ[i]? = some (some v)) (hd : Dq K p H v (.tuple ds)) (hn : Ev tn σ H (.int (n : Int))) : EvD K p (tSl (rSlA K) (tVar i) (tPart tn) tNoPart) σ H (.tuple (ds.drop n)) := fun H1 e1 Q k => by
  obtain ⟨b, xs, rfl, hS, hA⟩ := (Dq.ex e1 _ _ hd).seq
  exact sl_lo (K := K) (n := n) hv hS (fun H2 e2 Q2 k2 => hn H2 (e1.trans e2) Q2 k2) fun u H2 e2 h => k _ H2 e2 (.tup h ((DqAll.ex e2 _ _ hA).drop n))
theorem ed_lsN {o : HO} {i : Nat} (hh : H p = some o) (hv : σ[i]? = some (some v)) (hd : Dq K p H v (.tuple ds)) : EvD K p (tCB (rListN K) (tCons (tVar i) tNil)) σ H (.list ds) := fun H1 e Q k => by
  obtain ⟨b, xs, rfl, hS, hA⟩ := (Dq.ex e _ _ hd).seq
  refine ⟨_, hv, b, xs, rfl, .inr hS, fun l hl hm => ?_⟩
  have x1 := Ex.new (o := .lst xs) hl
  exact k _ _ x1 (.lst (ne_of_none (e _ _ hh) hl).symm hm upd_same (DqAll.ex x1 _ _ hA))
theorem DqAll.reps : ∀ (n : Nat) {xs : List V} {ds : List PyData}, DqAll K p H xs ds → DqAll K p H (List.replicate n xs).flatten (List.replicate n ds).flatten
  | 0, _, _, _ => .nil
  | n + 1, _, _, h => by
    rw [List.replicate_succ, List.replicate_succ, List.flatten_cons, List.flatten_cons]
    exact h.append (DqAll.reps n h)
theorem ed_repN {n : Nat} (h : EvD K p te σ H (.tuple ds)) (n0 : ds ≠ []) (n2 : 2 ≤ n) (n9 : n ≤ 1000) (hl : ds.length ≤ 1000) : EvD K p (tOp (rRepT K) te (tC (.int (n : Nat)))) σ H (.tuple (List.replicate n ds).flatten) := fun H1 e1 Q k =>
  h H1 e1 _ fun x H2 e2 q => by
    obtain ⟨a, xs, rfl, hS, hA⟩ := q.seq
    have xl := hA.len
    refine ⟨a, _, xs, rfl, rfl, hS, fun z => ?_, by omega, by omega, by omega, fun t ft => ?_⟩
    · subst z
      cases hA
      exact n0 rfl
    · have x1 := Ex.new (o := .tup (List.replicate (n : Int).toNat xs).flatten) ft
      exact k _ _ (e2.trans x1) (.tup (SqT.of upd_same) (DqAll.ex x1 _ _ (hA.reps n)))
end
theorem rep_len (n : Nat) (ds : List PyData) : (List.replicate n ds).flatten.length = n * ds.length := by
  induction n with
  | zero => simp
  | succ n ih => rw [List.replicate_succ, List.flatten_cons, List.length_append, ih, Nat.succ_mul, Nat.add_comm]
theorem nca_of {c e : Nat} : ∀ {ds : List PyData}, (∀ d ∈ ds, Nc c e d) → NcA (ds.length * (c + 2)) e ds
  | [], _ => by simpa using nca_nil
  | d :: ds, h => by
    have h1 := nca_cons (h d List.mem_cons_self) (nca_of fun x hx => h x (List.mem_cons_of_mem _ hx))
    refine ⟨h1.sh, h1.dp, ?_⟩
    have := h1.co
    rw [List.length_cons, Nat.succ_mul]
    omega
theorem nc_f10 {q : Rat} (h : Bd 10 q) : Nc 100 3 (frd q) := (nc_pair h.1 (bd_den h) (by decide) (by decide)).mono (by decide) (by decide)
theorem nc_i1 : Nc 100 0 (.int 1) := (nc_int (b := 8) (by decide) (by decide) (by decide)).mono (by decide) (Nat.le_refl _)
theorem nc_ii (n m : Int) (hn : n.natAbs < 2 ^ 8) (hm : m.natAbs < 2 ^ 8) : Nc 100 3 (.tuple [.int n, .int m]) := (nc_pair hn hm (by decide) (by decide)).mono (by decide) (by decide)
theorem nc_iI (n : Int) (hn : n.natAbs < 2 ^ 8) : Nc 10 0 (.int n) := nc_int hn (by decide) (by decide)
/-! ### what is no group -/
theorem gs_len (F : List Fk) : (F.map gtD).length = F.length := List.length_map ..
def dLow : List PyData := [.tuple [.int (-1), .int 2], .int 1, .none, .tuple [.int 2, .int 2], .list [.int 1, .int 1], .tuple [.bool true, .int 1], .tuple [.int 1, .int 0]]
def dWid : List PyData := [.tuple [.int 0, .int 1], .tuple [.int 1, .int 1], .tuple [.int (-1), .int 2], .tuple [.int 3, .int 2], .tuple [.int 2, .int 4], .int 1, .none, .tuple [.int 1, .bool true], .list [.int 1, .int 2]]
def dFar (n : Nat) : List PyData := [.int (n : Nat), .int (((n + 1 : Nat)) : Int), .int (-1), .str "0", .bool false, .tuple [.int 0], .int 9]
theorem low_no : ∀ d ∈ dLow, posZ d = false := by decide +kernel
theorem wid_no : ∀ d ∈ dWid, prpB d = false := by decide +kernel
theorem far_no {n : Nat} (h : n < 9) : ∀ d ∈ dFar n, isNon d = false ∧ nbB d (n : Int) = false := by
  refine List.forall_mem_cons.mpr ⟨⟨rfl, ?_⟩, List.forall_mem_cons.mpr ⟨⟨rfl, ?_⟩, List.forall_mem_cons.mpr ⟨⟨rfl, ?_⟩, List.forall_mem_cons.mpr ⟨⟨rfl, rfl⟩, List.forall_mem_cons.mpr ⟨⟨rfl, rfl⟩, List.forall_mem_cons.mpr ⟨⟨rfl, rfl⟩, List.forall_mem_cons.mpr ⟨⟨rfl, ?_⟩, fun _ h => nomatch h⟩⟩⟩⟩⟩⟩⟩
  · show (true && (decide ((0 : Int) ≤ (n : Nat)) && decide (((n : Nat) : Int) < (n : Nat)))) = false
    rw [decide_eq_false (p := ((n : Nat) : Int) < (n : Nat)) (by omega), Bool.and_false, Bool.and_false]
  · show (true && (decide ((0 : Int) ≤ ((n + 1 : Nat) : Int)) && decide (((n + 1 : Nat) : Int) < (n : Nat)))) = false
    rw [decide_eq_false (p := ((n + 1 : Nat) : Int) < (n : Nat)) (by omega), Bool.and_false, Bool.and_false]
  · rfl
  · show (true && (decide ((0 : Int) ≤ 9) && decide ((9 : Int) < (n : Nat)))) = false
    rw [decide_eq_false (p := (9 : Int) < (n : Nat)) (by omega), Bool.and_false, Bool.and_false]
theorem low_nc : ∀ d ∈ dLow, Nc 100 3 d := by
  have i1 : Nc 10 0 (.int 1) := nc_iI 1 (by decide)
  refine List.forall_mem_cons.mpr ⟨nc_ii (-1) 2 (by decide) (by decide), List.forall_mem_cons.mpr ⟨i1.mono (by decide) (by decide), List.forall_mem_cons.mpr ⟨nc_none.mono (by decide) (by decide), List.forall_mem_cons.mpr ⟨nc_ii 2 2 (by decide) (by decide), List.forall_mem_cons.mpr ⟨?_, List.forall_mem_cons.mpr ⟨?_, List.forall_mem_cons.mpr ⟨nc_ii 1 0 (by decide) (by decide), fun _ h => nomatch h⟩⟩⟩⟩⟩⟩⟩
  · exact (nc_lst (nca_cons i1 (nca_cons i1 nca_nil))).mono (by decide) (by decide)
  · exact (nc_tup (nca_cons ((nc_bool true).mono (Nat.le_refl _) (Nat.le_refl _)) (nca_cons i1 nca_nil))).mono (by decide) (by decide)
theorem wid_nc : ∀ d ∈ dWid, Nc 100 3 d := by
  have i1 : Nc 10 0 (.int 1) := nc_iI 1 (by decide)
  have i2 : Nc 10 0 (.int 2) := nc_iI 2 (by decide)
  refine List.forall_mem_cons.mpr ⟨nc_ii 0 1 (by decide) (by decide), List.forall_mem_cons.mpr ⟨nc_ii 1 1 (by decide) (by decide), List.forall_mem_cons.mpr ⟨nc_ii (-1) 2 (by decide) (by decide), List.forall_mem_cons.mpr ⟨nc_ii 3 2 (by decide) (by decide), List.forall_mem_cons.mpr ⟨nc_ii 2 4 (by decide) (by decide), List.forall_mem_cons.mpr ⟨i1.mono (by decide) (by decide), List.forall_mem_cons.mpr ⟨nc_none.mono (by decide) (by decide), List.forall_mem_cons.mpr ⟨?_, List.forall_mem_cons.mpr ⟨?_, fun _ h => nomatch h⟩⟩⟩⟩⟩⟩⟩⟩⟩
  · exact (nc_tup (nca_cons i1 (nca_cons ((nc_bool true).mono (Nat.le_refl _) (Nat.le_refl _)) nca_nil))).mono (by decide) (by decide)
  · exact (nc_lst (nca_cons i1 (nca_cons i2 nca_nil))).mono (by decide) (by decide)
theorem far_nc {n : Nat} (h : n < 9) : ∀ d ∈ dFar n, Nc 100 3 d := by
  have i0 : Nc 10 0 (.int 0) := nc_iI 0 (by decide)
  refine List.forall_mem_cons.mpr ⟨(nc_iI (n : Int) (by omega)).mono (by decide) (by decide), List.forall_mem_cons.mpr ⟨(nc_iI ((n + 1 : Nat) : Int) (by omega)).mono (by decide) (by decide), List.forall_mem_cons.mpr ⟨(nc_iI (-1) (by decide)).mono (by decide) (by decide), List.forall_mem_cons.mpr ⟨(nc_str (x := "0") (c := 5) (by decide +kernel)).mono (by decide) (by decide), List.forall_mem_cons.mpr ⟨(nc_bool false).mono (by decide) (by decide), List.forall_mem_cons.mpr ⟨(nc_tup (nca_cons i0 nca_nil)).mono (by decide) (by decide), List.forall_mem_cons.mpr ⟨(nc_iI 9 (by decide)).mono (by decide) (by decide), fun _ h => nomatch h⟩⟩⟩⟩⟩⟩⟩
theorem opt_nc {o : Option Nat} (h : ∀ q, o = some q → q < 9) : Nc 100 3 (optD o) := by
  cases o with
  | none => exact nc_none.mono (by decide) (by decide)
  | some q =>
    have := h q rfl
    exact (nc_iI (q : Int) (by omega)).mono (by decide) (by decide)
theorem nc_3 {x y z : PyData} {c e : Nat} (hx : Nc c e x) (hy : Nc c e y) (hz : Nc c e z) : Nc (3 * c + 10) (e + 1) (.tuple [x, y, z]) := (nc_tup (nca_cons hx (nca_cons hy (nca_cons hz nca_nil)))).mono (by omega) (by omega)
theorem tests_no : ∀ (ds : List PyData) (k j : Nat) (d : PyData), ds[j]? = some d → testB d ((k + j : Nat) : Int) = false → testsB k ds = false
  | d :: ds, k, 0, e, h, n => by
    cases h
    rw [Nat.add_zero] at n
    show (testB d ((k : Nat) : Int) && _) = false
    rw [n, Bool.false_and]
  | d :: ds, k, j + 1, e, h, n => by
    show (_ && testsB (k + 1) ds) = false
    rw [tests_no ds (k + 1) j e h (by rw [show k + 1 + j = k + (j + 1) by omega]; exact n), Bool.and_false]
theorem FOk.gt_nc {F : List Fk} (ok : FOk F) {d : PyData} (hd : d ∈ F.map gtD) : Nc 400 5 d := by
  obtain ⟨t, ht, rfl⟩ := List.mem_map.mp hd
  obtain ⟨i, hi⟩ := List.getElem?_of_mem ht
  have il := (List.getElem?_eq_some_iff.mp hi).1
  have l8 := ok.most
  refine (nc_3 (nc_f10 (ok.pay t ht).neg) (nc_f10 (ok.fac t ht)) (opt_nc fun q hq => ?_)).mono (by omega) (by omega)
  have := ok.lt i q (by rw [parF_at hi]; exact hq)
  omega
section
variable {P : Program} {w : World} {K : PySem.W.Frag} {mg : Str → Option Value} {base : Heap}
def spOdg (K : PySem.W.Frag) : Sp := fun vs H Q _ => ∃ (p a : Addr) (v : V) (F : List Fk) (N : Nat), vs = [.ref p, v] ∧ Pen H p a N ∧ N ≤ 900 ∧ Dq K p H v (gsD F) ∧ GrpOk F ∧
  ∀ (x : V) (d : PyData) (H' : Hp), ExB p H H' → Pen H' p a (N + 8) → Dq K p H' x d → groupB d = false → Nc 20000 12 d → Q x H'
theorem ok__law_odd_group (T : Txt K mg) : FnOk P w K mg base CX0 4 T.d__law_odd_group.a T.d__law_odd_group.fd ["_law_pen", "_law_group_here"] (spOdg K) := by
  refine T.d__law_odd_group.F.ok sc__law_odd_group (fun vs H Q E h => ?_) (fun cdv A outer s H vs Q E hr h => ?_)
  · obtain ⟨p, a, v, F, N, rfl, _⟩ := h
    rfl
  · obtain ⟨p, a, v, F, N, rfl, hp, hN, hv, ok, k⟩ := h
    refine ⟨_, (pss_cons (ps_set (i := 2) sc__law_odd_group.nd rfl (Or.inl rfl) (pe_call (ok__law_take T) (hr.mono (by decide)) (by rfl) T.d__law_take.g T.d__law_take.F.kp T.d__law_take.b .nil pass0 (pa_cons (pv 0) (pa_cons (pe_callB call_len_seq (by rfl) T.n_len (by decide +kernel) (pa_cons (pv 1) pa_nil)) pa_nil))))
      (pss_cons (ps_asg (pe_ix ix_tup (pv 1) (pv 2) (fun _ _ => rfl)) (pg_tup (by rfl) (pgs_cons (pg_name (i := 3) sc__law_odd_group.nd rfl (Or.inl rfl)) (pgs_cons (pg_name (i := 4) sc__law_odd_group.nd rfl (Or.inl rfl)) (pgs_cons (pg_name (i := 5) sc__law_odd_group.nd rfl (Or.inl rfl)) pgs_nil)))))
      (pss_cons (ps_set (i := 6) sc__law_odd_group.nd rfl (Or.inl rfl) (pe_call (ok__law_one T) (hr.mono (by decide)) (by rfl) T.d__law_one.g T.d__law_one.F.kp T.d__law_one.b .nil pass0 (pa_cons (pv 0) (pa_cons (pe_lstN (pa_cons (pe_tup (pa_cons (pe_un un_neg pe_int) (pa_cons pe_int pa_nil))) (pa_cons pe_int (pa_cons pe_non (pa_cons (pe_tup (pa_cons pe_int (pa_cons pe_int pa_nil))) (pa_cons (pe_lstN (pa_cons pe_int (pa_cons pe_int pa_nil))) (pa_cons (pe_tup (pa_cons pe_bl (pa_cons pe_int pa_nil))) (pa_cons (pe_tup (pa_cons pe_int (pa_cons pe_int pa_nil))) pa_nil)))))))) pa_nil))))
      (pss_cons (ps_set (i := 7) sc__law_odd_group.nd rfl (Or.inl rfl) (pe_call (ok__law_one T) (hr.mono (by decide)) (by rfl) T.d__law_one.g T.d__law_one.F.kp T.d__law_one.b .nil pass0 (pa_cons (pv 0) (pa_cons (pe_lstN (pa_cons (pe_tup (pa_cons pe_int (pa_cons pe_int pa_nil))) (pa_cons (pe_tup (pa_cons pe_int (pa_cons pe_int pa_nil))) (pa_cons (pe_tup (pa_cons (pe_un un_neg pe_int) (pa_cons pe_int pa_nil))) (pa_cons (pe_tup (pa_cons pe_int (pa_cons pe_int pa_nil))) (pa_cons (pe_tup (pa_cons pe_int (pa_cons pe_int pa_nil))) (pa_cons pe_int (pa_cons pe_non (pa_cons (pe_tup (pa_cons pe_int (pa_cons pe_bl pa_nil))) (pa_cons (pe_lstN (pa_cons pe_int (pa_cons pe_int pa_nil))) pa_nil)))))))))) pa_nil))))
      (pss_cons (ps_set (i := 8) sc__law_odd_group.nd rfl (Or.inl rfl) (pe_call (ok__law_one T) (hr.mono (by decide)) (by rfl) T.d__law_one.g T.d__law_one.F.kp T.d__law_one.b .nil pass0 (pa_cons (pv 0) (pa_cons (pe_lstN (pa_cons (pv 2) (pa_cons (pe_op op_add (pv 2) pe_int) (pa_cons (pe_un un_neg pe_int) (pa_cons pe_str (pa_cons pe_bl (pa_cons (pe_tup (pa_cons pe_int pa_nil)) (pa_cons pe_int pa_nil)))))))) pa_nil))))
      (pss_cons (ps_set (i := 9) sc__law_odd_group.nd rfl (Or.inl rfl) (pe_call (ok__law_one T) (hr.mono (by decide)) (by rfl) T.d__law_one.g T.d__law_one.F.kp T.d__law_one.b .nil pass0 (pa_cons (pv 0) (pa_cons (pe_lstN (pa_cons (pe_tup (pa_cons (pv 6) (pa_cons (pv 4) (pa_cons (pv 5) pa_nil)))) (pa_cons (pe_tup (pa_cons (pv 3) (pa_cons (pv 7) (pa_cons (pv 5) pa_nil)))) (pa_cons (pe_tup (pa_cons (pv 3) (pa_cons (pv 4) (pa_cons (pv 8) pa_nil)))) (pa_cons (pe_lstN (pa_cons (pv 3) (pa_cons (pv 4) (pa_cons (pv 5) pa_nil)))) pa_nil))))) pa_nil))))
      (pss_cons (ps_set (i := 9) sc__law_odd_group.nd rfl (Or.inl rfl) (pe_call (ok__law_one T) (hr.mono (by decide)) (by rfl) T.d__law_one.g T.d__law_one.F.kp T.d__law_one.b .nil pass0 (pa_cons (pv 0) (pa_cons (pe_lstN (pa_cons (pv 9) (pa_cons (pv 9) (pa_cons (pe_tup (pa_cons (pv 3) (pa_cons (pv 4) pa_nil))) (pa_cons (pe_tup (pa_cons (pv 3) (pa_cons (pv 4) (pa_cons (pv 5) (pa_cons pe_non pa_nil))))) (pa_cons pe_non pa_nil)))))) pa_nil))))
      (pss_cons (ps_set (i := 10) sc__law_odd_group.nd rfl (Or.inl rfl) (pe_op op_catA (pe_op op_catA (pe_slice sl_tupA (pv 1) po_none (po_some (pv 2))) (pe_tup (pa_cons (pv 9) pa_nil))) (pe_slice sl_tupA (pv 1) (po_some (pe_op op_add (pv 2) pe_int)) po_none)))
      (pss_one (ps_ret (pe_call (ok__law_one T) (hr.mono (by decide)) (by rfl) T.d__law_one.g T.d__law_one.F.kp T.d__law_one.b .nil pass0 (pa_cons (pv 0) (pa_cons (pe_lstN (pa_cons (pv 10) (pa_cons (pv 10) (pa_cons (pv 10) (pa_cons (pe_callTy call_listN (by rfl) T.n_list (by decide +kernel) (pa_cons (pv 1) pa_nil)) (pa_cons (pe_tup pa_nil) (pa_cons pe_non (pa_cons (pe_op op_repT (pv 1) pe_int) pa_nil)))))))) pa_nil))))))))))))), ?_⟩
    have l1 := ok.one
    have l4 := ok.four
    obtain ⟨c, xs, rfl, hS, hA⟩ := hv.seq
    have xl : xs.length = F.length := by rw [hA.len, List.length_map]
    obtain ⟨xp, hxp⟩ := hp.hasP
    refine n_seq ?_
    refine ⟨_, rfl, _, rfl, c, xs, rfl, .inr hS, p, a, _, N, rfl, hp, by omega, by omega, by omega, fun r H1 r0 r1 eb1 hp1 => ?_⟩
    obtain ⟨at_, rfl⟩ : ∃ at_ : Nat, r = at_ := ⟨r.toNat, by omega⟩
    have ha4 : at_ < F.length := by omega
    have hv1 := Dq.exb hxp eb1 _ _ hv
    dsimp only
    refine n_seq ?_
    obtain ⟨x1, hx1⟩ := hp1.hasP
    -- price, part, lock
    obtain ⟨c', ys, ec, hS1, hA1⟩ := hv1.seq
    cases ec
    have hyl : at_ < ys.length := by rw [hA1.len, List.length_map]; exact ha4
    have hxn := List.getElem?_eq_getElem hyl
    obtain ⟨t, ht, qt⟩ := hA1.at_ hxn
    obtain ⟨b, z0, z1, eb, hb2, q0, q1⟩ := qt.g3
    refine ⟨_, rfl, _, rfl, c, ys, (at_ : Int), _, rfl, rfl, hS1, atI_nat hxn, ?_⟩
    rw [eb]
    refine ⟨b, _, rfl, hb2, rfl, _, _, rfl, _, _, rfl, _, _, rfl, rfl, ?_⟩
    dsimp only
    have tm := List.mem_of_getElem? ht
    have gpar : ∀ q, t.par = some q → q < at_ := fun q hq => ok.lt at_ q (by rw [parF_at ht]; exact hq)
    have nP : Nc 100 3 (frd (-t.pay)) := nc_f10 (ok.pay t tm).neg
    have nS : Nc 100 3 (frd t.fac) := nc_f10 (ok.fac t tm)
    have nL : Nc 100 3 (optD t.par) := opt_nc fun q hq => by have := gpar q hq; omega
    have qL : ∀ G, Dq K p G (optV t.par) (optD t.par) := fun G => opt_D
    -- low
    refine n_seq ?_
    refine rd_pickN (K := K) (ds := dLow) (eds_cons (ed_P ed_N ed_I) (eds_cons ed_I (eds_cons ed_none (eds_cons (ed_P ed_I ed_I) (eds_cons (ed_lst hx1 (eds_cons ed_I (eds_cons ed_I eds_nil)) (by show 2 ≤ 1000; decide)) (eds_cons (ed_P ed_bool ed_I) (eds_cons (ed_P ed_I ed_I) eds_nil))))))) hp1 rfl (by decide) (by decide) (by omega) fun v2 d2 H2 hd2 eb2 hp2 qd2 => ?_
    obtain ⟨x2, hx2⟩ := hp2.hasP
    have q02 := Dq.exb hx1 eb2 _ _ q0
    have q12 := Dq.exb hx1 eb2 _ _ q1
    have hv2 := Dq.exb hx1 eb2 _ _ hv1
    refine n_name ?_
    dsimp only
    -- wide
    refine n_seq ?_
    refine rd_pickN (K := K) (ds := dWid) (eds_cons (ed_P ed_I ed_I) (eds_cons (ed_P ed_I ed_I) (eds_cons (ed_P ed_N ed_I) (eds_cons (ed_P ed_I ed_I) (eds_cons (ed_P ed_I ed_I) (eds_cons ed_I (eds_cons ed_none (eds_cons (ed_P ed_I ed_bool) (eds_cons (ed_lst hx2 (eds_cons ed_I (eds_cons ed_I eds_nil)) (by show 2 ≤ 1000; decide)) eds_nil))))))))) hp2 rfl (by decide) (by decide) (by omega) fun v3 d3 H3 hd3 eb3 hp3 qd3 => ?_
    obtain ⟨x3, hx3⟩ := hp3.hasP
    have q03 := Dq.exb hx2 eb3 _ _ q02
    have q13 := Dq.exb hx2 eb3 _ _ q12
    have hv3 := Dq.exb hx2 eb3 _ _ hv2
    have qd23 := Dq.exb hx2 eb3 _ _ qd2
    refine n_name ?_
    dsimp only
    -- far
    refine n_seq ?_
    refine rd_pickN (K := K) (ds := dFar at_) (eds_cons (ed_var rfl (.int _)) (eds_cons (ed_ev (ev_is (ev_add (ev_var rfl) ev_c) (by rw [show ((at_ : Nat) : Int) + 1 = ((at_ + 1 : Nat) : Int) by omega])) fun _ => .int _) (eds_cons ed_N (eds_cons ed_str (eds_cons ed_bool (eds_cons (ed_tup (eds_cons ed_I eds_nil) (by show 1 ≤ 1000; decide)) (eds_cons ed_I eds_nil))))))) hp3 rfl (by show 0 < 7; decide) (by show 7 ≤ 900; decide) (by omega) fun v4 d4 H4 hd4 eb4 hp4 qd4 => ?_
    obtain ⟨x4, hx4⟩ := hp4.hasP
    have q04 := Dq.exb hx3 eb4 _ _ q03
    have q14 := Dq.exb hx3 eb4 _ _ q13
    have hv4 := Dq.exb hx3 eb4 _ _ hv3
    have qd24 := Dq.exb hx3 eb4 _ _ qd23
    have qd34 := Dq.exb hx3 eb4 _ _ qd3
    refine n_name ?_
    dsimp only
    -- a test
    refine n_seq ?_
    refine rd_pickN (K := K) (ds := [.tuple [d2, frd t.fac, optD t.par], .tuple [frd (-t.pay), d3, optD t.par], .tuple [frd (-t.pay), frd t.fac, d4], .list [frd (-t.pay), frd t.fac, optD t.par]]) (eds_cons (ed_tup (eds_cons (ed_var rfl qd24) (eds_cons (ed_var rfl q14) (eds_cons (ed_var rfl (qL _)) eds_nil))) (by show 3 ≤ 1000; decide)) (eds_cons (ed_tup (eds_cons (ed_var rfl q04) (eds_cons (ed_var rfl qd34) (eds_cons (ed_var rfl (qL _)) eds_nil))) (by show 3 ≤ 1000; decide)) (eds_cons (ed_tup (eds_cons (ed_var rfl q04) (eds_cons (ed_var rfl q14) (eds_cons (ed_var rfl qd4) eds_nil))) (by show 3 ≤ 1000; decide)) (eds_cons (ed_lst hx4 (eds_cons (ed_var rfl q04) (eds_cons (ed_var rfl q14) (eds_cons (ed_var rfl (qL _)) eds_nil))) (by show 3 ≤ 1000; decide)) eds_nil)))) hp4 rfl (by show 0 < 4; decide) (by show 4 ≤ 900; decide) (by omega) fun v5 d5 H5 hd5 eb5 hp5 qd5 => ?_
    have at9 : at_ < 9 := by omega
    have n5 : testB d5 (at_ : Int) = false ∧ Nc 400 5 d5 := by
      simp only [List.mem_cons, List.not_mem_nil, or_false] at hd5
      rcases hd5 with rfl | rfl | rfl | rfl
      · refine ⟨?_, (nc_3 (low_nc d2 hd2) nS nL).mono (by omega) (by omega)⟩
        show (_ && (posZ d2 && _)) = false
        rw [low_no d2 hd2, Bool.false_and, Bool.and_false]
      · refine ⟨?_, (nc_3 nP (wid_nc d3 hd3) nL).mono (by omega) (by omega)⟩
        show (_ && (_ && prpB d3)) = false
        rw [wid_no d3 hd3, Bool.and_false, Bool.and_false]
      · refine ⟨?_, (nc_3 nP nS (far_nc at9 d4 hd4)).mono (by omega) (by omega)⟩
        show ((isNon d4 || nbB d4 (at_ : Int)) && _) = false
        rw [(far_no at9 d4 hd4).1, (far_no at9 d4 hd4).2]
        rfl
      · exact ⟨rfl, (nc_lst (nca_cons nP (nca_cons nS (nca_cons nL nca_nil)))).mono (by omega) (by omega)⟩
    obtain ⟨x5, hx5⟩ := hp5.hasP
    have q05 := Dq.exb hx4 eb5 _ _ q04
    have q15 := Dq.exb hx4 eb5 _ _ q14
    have hv5 := Dq.exb hx4 eb5 _ _ hv4
    refine n_name ?_
    dsimp only
    -- a test or what is none
    refine n_seq ?_
    refine rd_pickN (K := K) (ds := [d5, d5, .tuple [frd (-t.pay), frd t.fac], .tuple [frd (-t.pay), frd t.fac, optD t.par, .none], .none]) (eds_cons (ed_var rfl qd5) (eds_cons (ed_var rfl qd5) (eds_cons (ed_tup (eds_cons (ed_var rfl q05) (eds_cons (ed_var rfl q15) eds_nil)) (by show 2 ≤ 1000; decide)) (eds_cons (ed_tup (eds_cons (ed_var rfl q05) (eds_cons (ed_var rfl q15) (eds_cons (ed_var rfl (qL _)) (eds_cons ed_none eds_nil)))) (by show 4 ≤ 1000; decide)) (eds_cons ed_none eds_nil))))) hp5 rfl (by show 0 < 5; decide) (by show 5 ≤ 900; decide) (by omega) fun v6 d6 H6 hd6 eb6 hp6 qd6 => ?_
    have n6 : testB d6 (at_ : Int) = false ∧ Nc 400 5 d6 := by
      simp only [List.mem_cons, List.not_mem_nil, or_false] at hd6
      rcases hd6 with rfl | rfl | rfl | rfl | rfl
      · exact n5
      · exact n5
      · exact ⟨rfl, (nc_tup (nca_cons nP (nca_cons nS nca_nil))).mono (by omega) (by omega)⟩
      · exact ⟨rfl, (nc_tup (nca_cons nP (nca_cons nS (nca_cons nL (nca_cons ((nc_none).mono (Nat.le_refl _) (by omega)) nca_nil))))).mono (by omega) (by omega)⟩
      · exact ⟨rfl, nc_none.mono (by omega) (by omega)⟩
    obtain ⟨x6, hx6⟩ := hp6.hasP
    have hv6 := Dq.exb hx5 eb6 _ _ hv5
    refine n_name ?_
    dsimp only
    refine n_seq ?_
    have ql : (F.map gtD).length = F.length := gs_len F
    refine s_asgP (ed_catA (K := K) (p := p) (ed_catA (ed_slHi (n := at_) rfl hv6 (ev_var rfl)) (ed_tup (eds_cons (ed_var rfl qd6) eds_nil) (by show 1 ≤ 1000; decide)) (by rw [List.length_take]; show _ + 1 ≤ 1000; omega)) (ed_slLo (n := at_ + 1) rfl hv6 (ev_is (ev_add (ev_var rfl) ev_c) (by rw [show ((at_ : Nat) : Int) + 1 = ((at_ + 1 : Nat) : Int) by omega]))) (by rw [List.length_append, List.length_take, List.length_drop]; show _ + 1 + _ ≤ 1000; omega)) fun w7 H7 e7 qz => ?_
    have hbl : ((F.map gtD).take at_ ++ [d6] ++ (F.map gtD).drop (at_ + 1)).length ≤ 5 := by
      rw [List.length_append, List.length_append, List.length_take, List.length_drop]
      show _ + 1 + _ ≤ 5
      omega
    have bno : groupB (.tuple ((F.map gtD).take at_ ++ [d6] ++ (F.map gtD).drop (at_ + 1))) = false := by
      show (_ && testsB 0 _) = false
      rw [tests_no _ 0 at_ d6 ?_ (by rw [Nat.zero_add]; exact n6.1), Bool.and_false]
      rw [List.append_assoc, List.getElem?_append_right (by rw [List.length_take]; omega), List.length_take, show at_ - min at_ (F.map gtD).length = 0 by omega]
      rfl
    have bnc : ∀ d ∈ (F.map gtD).take at_ ++ [d6] ++ (F.map gtD).drop (at_ + 1), Nc 400 5 d := fun d hd => by
      rcases List.mem_append.mp hd with hd | hd
      · rcases List.mem_append.mp hd with hd | hd
        · exact ok.gt_nc (List.mem_of_mem_take hd)
        · rw [List.mem_singleton] at hd
          rw [hd]
          exact n6.2
      · exact ok.gt_nc (List.mem_of_mem_drop hd)
    generalize (F.map gtD).take at_ ++ [d6] ++ (F.map gtD).drop (at_ + 1) = bd at qz hbl bno bnc
    have hv7 := Dq.ex e7 _ _ hv6
    have hp7 := hp6.ex e7
    dsimp only
    obtain ⟨x7, hx7⟩ := hp7.hasP
    have EB := (((((eb1.trans eb2).trans eb3).trans eb4).trans eb5).trans eb6).trans (Ex.b e7)
    have nca : ∀ {ds : List PyData}, (∀ d ∈ ds, Nc 400 5 d) → ds.length ≤ 20 → NcA 9900 5 ds := fun {ds} h hl => by
      have h1 := nca_of h
      exact ⟨h1.sh, h1.dp, by have := h1.co; omega⟩
    have rl : (List.replicate 5 (F.map gtD)).flatten.length = 5 * F.length := by
      rw [rep_len, ql]
    have gn : ∀ d ∈ F.map gtD, Nc 400 5 d := fun d hd => ok.gt_nc hd
    refine rd_pickN (K := K) (ds := [.tuple bd, .tuple bd, .tuple bd, .list (F.map gtD), .tuple [], .none, .tuple (List.replicate 5 (F.map gtD)).flatten]) (eds_cons (ed_var rfl qz) (eds_cons (ed_var rfl qz) (eds_cons (ed_var rfl qz) (eds_cons (ed_lsN hx7 rfl hv7) (eds_cons (ed_tup eds_nil (by decide)) (eds_cons ed_none (eds_cons (ed_repN (n := 5) (ed_var rfl hv7) (fun z => by
      have h := congrArg List.length z
      rw [ql] at h
      exact absurd h (by show F.length ≠ 0; omega)) (by decide) (by decide) (by omega)) eds_nil))))))) hp7 rfl (by show 0 < 7; decide) (by show 7 ≤ 900; decide) (by omega) fun y2 d H8 hd eb8 hp8 q8 => ?_
    refine k y2 d H8 (EB.trans eb8) (hp8.mono (by omega)) q8 ?_ ?_
    · simp only [List.mem_cons, List.not_mem_nil, or_false] at hd
      rcases hd with rfl | rfl | rfl | rfl | rfl | rfl | rfl
      · exact bno
      · exact bno
      · exact bno
      · rfl
      · rfl
      · rfl
      · show ((_ && decide (_ ≤ 4)) && _) = false
        rw [rl, decide_eq_false (p := 5 * F.length ≤ 4) (by omega), Bool.and_false, Bool.false_and]
    · simp only [List.mem_cons, List.not_mem_nil, or_false] at hd
      have b1 : Nc 20000 12 (.tuple bd) := (nc_tup (nca bnc (by omega))).mono (by omega) (by omega)
      rcases hd with rfl | rfl | rfl | rfl | rfl | rfl | rfl
      · exact b1
      · exact b1
      · exact b1
      · exact (nc_lst (nca gn (by omega))).mono (by omega) (by omega)
      · exact (nc_tup (nca_nil (e := 0))).mono (by omega) (by omega)
      · exact nc_none.mono (by omega) (by omega)
      · refine (nc_tup (nca (fun d hd => ?_) (by rw [rl]; omega))).mono (by omega) (by omega)
        obtain ⟨l, hl, hd⟩ := List.mem_flatten.mp hd
        rw [List.eq_of_mem_replicate hl] at hd
        exact gn d hd
end
/-! ### what is no order -/
theorem rgV_ints (n : Nat) : rgV 0 (n : Int) = intsV (List.range n) := by
  unfold rgV intsV
  rw [show ((n : Int) - 0).toNat = n by omega]
  refine List.map_congr_left fun i _ => ?_
  rw [Int.zero_add]
theorem ints_dq {K : PySem.W.Frag} {p : Addr} {H : Hp} : ∀ ns : List Nat, DqAll K p H (intsV ns) (intsD ns)
  | [] => .nil
  | n :: ns => .cons (.int _) (ints_dq ns)
theorem intsD_app (a b : List Nat) : intsD (a ++ b) = intsD a ++ intsD b := List.map_append
theorem intsD_take (a : List Nat) (n : Nat) : (intsD a).take n = intsD (a.take n) := (List.map_take ..).symm
theorem intsD_drop (a : List Nat) (n : Nat) : (intsD a).drop n = intsD (a.drop n) := (List.map_drop ..).symm
theorem intsD_len (a : List Nat) : (intsD a).length = a.length := List.length_map ..
section
variable {K : PySem.W.Frag} {p : Addr} {σ : L2.St} {H : Hp} {ta tb te : TE} {ds es : List PyData} {o : HO} {l : Addr} {vs : List V} {i n : Nat}
theorem LstD0.ex {H' : Hp} {v : V} (e : Ex H H') (h : LstD0 K p ds v H) : LstD0 K p ds v H' := by
  obtain ⟨l, vs, rfl, n, h, q⟩ := h
  exact ⟨l, vs, rfl, n, e _ _ h, DqAll.ex e _ _ q⟩
theorem el_var0 {v : V} (h : σ[i]? = some (some v)) (hd : LstD0 K p ds v H) : EvP (tVar i) σ H (LstD0 K p ds) := fun H1 e Q k => ⟨v, h, k v H1 (Ex.refl _) (hd.ex e)⟩
theorem el_0 (h : EvP te σ H (LstD K p ds)) : EvP te σ H (LstD0 K p ds) := fun H1 e Q k => h H1 e Q fun v H2 e2 q => k v H2 e2 q.to0
theorem el_dq (h : EvP te σ H (LstD K p ds)) : EvD K p te σ H (.list ds) := fun H1 e Q k => h H1 e Q fun v H2 e2 q => by
  obtain ⟨l, vs, rfl, n, m, hl, qs⟩ := q
  exact k _ H2 e2 (.lst n m hl qs)
theorem el_cat (hp : H p = some o) (ha : EvP ta σ H (LstD0 K p ds)) (hb : EvP tb σ H (LstD0 K p es)) (hl : ds.length + es.length ≤ 1000) : EvP (tOp rCatN ta tb) σ H (LstD K p (ds ++ es)) := fun H1 e1 Q k =>
  ha H1 e1 _ fun x H2 e2 q => hb H2 (e1.trans e2) _ fun y H3 e3 r => by
    obtain ⟨a, xs, rfl, _, h1, qa⟩ := q.ex e3
    obtain ⟨b, ys, rfl, _, h2, qb⟩ := r
    have xl := qa.len
    have yl := qb.len
    refine ⟨a, b, xs, ys, rfl, rfl, h1, h2, Nat.le_of_lt (small1000 (by omega)), fun c fc cm => ?_⟩
    have xc := Ex.new (o := .lst (xs ++ ys)) fc
    exact k _ _ ((e2.trans e3).trans xc) ⟨c, _, rfl, (ne_of_none ((e2.trans e3) _ _ (e1 _ _ hp)) fc).symm, cm, upd_same, (DqAll.ex xc _ _ qa).append (DqAll.ex xc _ _ qb)⟩
theorem cut_neg (xs : List V) : cutV xs none (some (-1)) = xs.take (xs.length - 1) := by
  unfold cutV
  have e : HT.sIx xs.length xs.length (some (-1)) = xs.length - 1 := by
    unfold HT.sIx
    simp
    omega
  rw [e, HT.sIx_none, List.drop_zero, Nat.sub_zero]
theorem el_lo (hp : H p = some o) {v : V} (h : σ[i]? = some (some v)) (hd : LstD0 K p ds v H) : EvP (tSl (rSlN K) (tVar i) (tPart (tC (.int (n : Nat)))) tNoPart) σ H (LstD K p (ds.drop n)) := fun H1 e Q k => by
  obtain ⟨a, xs, rfl, _, h1, qa⟩ := hd.ex e
  refine ⟨_, h, ⟨_, rfl, ?_⟩⟩
  show rSlN K (.ref a) (some (n : Int)) none H1 Q
  refine ⟨a, xs, rfl, SqL.of h1, fun c fc cm => ?_⟩
  have xc := Ex.new (o := .lst (cutV xs (some (n : Int)) none)) fc
  refine k _ _ xc ⟨c, _, rfl, (ne_of_none (e _ _ hp) fc).symm, cm, upd_same, ?_⟩
  have := (DqAll.ex xc _ _ qa).drop n
  rw [← cut_lo] at this
  exact this
theorem el_hi (hp : H p = some o) {v : V} (h : σ[i]? = some (some v)) (hd : LstD0 K p ds v H) : EvP (tSl (rSlN K) (tVar i) tNoPart (tPart (tC (.int (n : Nat))))) σ H (LstD K p (ds.take n)) := fun H1 e Q k => by
  obtain ⟨a, xs, rfl, _, h1, qa⟩ := hd.ex e
  refine ⟨_, h, ⟨_, rfl, ?_⟩⟩
  show rSlN K (.ref a) none (some (n : Int)) H1 Q
  refine ⟨a, xs, rfl, SqL.of h1, fun c fc cm => ?_⟩
  have xc := Ex.new (o := .lst (cutV xs none (some (n : Int)))) fc
  refine k _ _ xc ⟨c, _, rfl, (ne_of_none (e _ _ hp) fc).symm, cm, upd_same, ?_⟩
  have := (DqAll.ex xc _ _ qa).cut n
  rw [← cut_hi] at this
  exact this
theorem el_neg (hp : H p = some o) {v : V} (h : σ[i]? = some (some v)) (hd : LstD0 K p ds v H) : EvP (tSl (rSlN K) (tVar i) tNoPart (tPart (tUn (rU fun i => .int (-i)) (tC (.int 1))))) σ H (LstD K p (ds.take (ds.length - 1))) := fun H1 e Q k => by
  obtain ⟨a, xs, rfl, _, h1, qa⟩ := hd.ex e
  refine ⟨_, h, 1, rfl, ⟨_, rfl, ?_⟩⟩
  show rSlN K (.ref a) none (some (-1)) H1 Q
  refine ⟨a, xs, rfl, SqL.of h1, fun c fc cm => ?_⟩
  have xc := Ex.new (o := .lst (cutV xs none (some (-1)))) fc
  refine k _ _ xc ⟨c, _, rfl, (ne_of_none (e _ _ hp) fc).symm, cm, upd_same, ?_⟩
  have := (DqAll.ex xc _ _ qa).cut (xs.length - 1)
  rw [← cut_neg, qa.len] at this
  exact this
theorem ed_tupL {v : V} (h : σ[i]? = some (some v)) (hd : LstD0 K p ds v H) : EvD K p (tCB (fun xs H_1 Q => ∃ p ys, xs = [V.ref p] ∧ ((SqL K H_1 p ys ∧ ∀ (l : Addr), H_1 l = none → Q (V.ref l) (upd H_1 l (HO.tup ys))) ∨ SqT K H_1 p ys ∧ Q (V.ref p) H_1)) (tCons (tVar i) tNil)) σ H (.tuple ds) := fun H1 e Q k => by
  obtain ⟨a, xs, rfl, _, h1, qa⟩ := hd.ex e
  refine ⟨_, h, a, xs, rfl, .inl ⟨SqL.of h1, fun t ft => ?_⟩⟩
  have xt := Ex.new (o := .tup xs) ft
  exact k _ _ xt (.tup (SqT.of upd_same) (DqAll.ex xt _ _ qa))
theorem el_cat0 (hp : H p = some o) (ha : EvP ta σ H (LstD0 K p ds)) (hb : EvP tb σ H (LstD0 K p es)) (hl : ds.length + es.length ≤ 1000) : EvP (tOp rCat ta tb) σ H (LstD0 K p (ds ++ es)) := fun H1 e1 Q k =>
  ha H1 e1 _ fun x H2 e2 q => hb H2 (e1.trans e2) _ fun y H3 e3 r => by
    obtain ⟨a, xs, rfl, _, h1, qa⟩ := q.ex e3
    obtain ⟨b, ys, rfl, _, h2, qb⟩ := r
    have xl := qa.len
    have yl := qb.len
    refine ⟨a, b, xs, ys, rfl, rfl, h1, h2, Nat.le_of_lt (small1000 (by omega)), fun c fc => ?_⟩
    have xc := Ex.new (o := .lst (xs ++ ys)) fc
    exact k _ _ ((e2.trans e3).trans xc) ⟨c, _, rfl, (ne_of_none ((e2.trans e3) _ _ (e1 _ _ hp)) fc).symm, upd_same, (DqAll.ex xc _ _ qa).append (DqAll.ex xc _ _ qb)⟩
theorem LstD0.exb {H' : Hp} {v : V} {xp : List V} (hp : H p = some (.lst xp)) (e : ExB p H H') (h : LstD0 K p ds v H) : LstD0 K p ds v H' := by
  obtain ⟨l, vs, rfl, n, h, q⟩ := h
  exact ⟨l, vs, rfl, n, e _ _ n h, DqAll.exb hp e _ _ q⟩
end
theorem nc_ints0 {ns : List Nat} (h : ∀ n ∈ ns, n < 9) : ∀ d ∈ intsD ns, Nc 100 3 d := fun d hd => by
  obtain ⟨n, hn, rfl⟩ := List.mem_map.mp hd
  have := h n hn
  exact (nc_iI (n : Int) (by omega)).mono (by omega) (by omega)
def oD (n : Nat) : List PyData := intsD (List.range n)
def someD (n : Nat) : List PyData := [.none, .tuple (oD n), .list (oD n ++ [.int 0]), .list ((oD n).drop 1), .list ((oD n).take ((oD n).length - 1) ++ [.int (n : Nat)]), .list ([.bool false] ++ (oD n).drop 1), .list (oD n ++ [.none])]
def moreD (n : Nat) : List PyData := [.list ((oD n).take ((oD n).length - 1) ++ (oD n).take 1), .list ((oD n).take 1 ++ (oD n).take ((oD n).length - 1))]
def lastD (n : Nat) : List PyData := [.list ([.str "0"] ++ (oD n).drop 1), .list ([.list [.int 0]] ++ (oD n).drop 1), .list ((oD n).take ((oD n).length - 1) ++ [.int (-1)])]
theorem oD_len (n : Nat) : (oD n).length = n := by rw [oD, intsD_len, List.length_range]
theorem oD_nc {n : Nat} (h : n ≤ 4) : ∀ d ∈ oD n, Nc 100 3 d := nc_ints0 fun i hi => by
  have := List.mem_range.mp hi
  omega
/-! what is no order of F -/
theorem bad_len {F : List Fk} {ds : List PyData} (h : ds.length ≠ F.length) : seqB F (.list ds) = false := by
  show (decide (ds.length = F.length) && _) = false
  rw [decide_eq_false h, Bool.false_and]
theorem seqDs_no {F : List Fk} {d : PyData} (hn : nbB d (F.length : Int) = false) : ∀ (ds : List PyData) (told : List Nat), d ∈ ds → seqDs F told ds = false
  | e :: ds, told, h => by
    show (nbB e _ && (_ && seqDs F _ ds)) = false
    rcases List.mem_cons.mp h with rfl | h
    · rw [hn, Bool.false_and]
    · rw [seqDs_no hn ds _ h, Bool.and_false, Bool.and_false]
theorem bad_in {F : List Fk} {ds : List PyData} {d : PyData} (h : d ∈ ds) (hn : nbB d (F.length : Int) = false) : seqB F (.list ds) = false := by
  show (_ && seqDs F [] ds) = false
  rw [seqDs_no hn ds [] h, Bool.and_false]
theorem bad_par {F : List Fk} {i q : Nat} {r : List Nat} (h : parF F i = some q) : seqB F (.list (intsD (i :: r))) = false := by
  rw [seqB_ints]
  have : seqL F [] (i :: r) = false := by
    show (okL F [] i && _) = false
    unfold okL
    rw [h]
    simp [upL]
  rw [this, Bool.and_false]
theorem bad_dup {F : List Fk} {i : Nat} {a b : List Nat} (h : i ∈ a) : seqB F (.list (intsD (a ++ i :: b))) = false := by
  rw [seqB_ints]
  have : seqL F [] (a ++ i :: b) = false := by
    rw [seqL_app, List.nil_append]
    have : seqL F a (i :: b) = false := by
      show (okL F a i && _) = false
      unfold okL
      rw [decide_eq_true h]
      simp
    rw [this, Bool.and_false]
  rw [this, Bool.and_false]
theorem nc_list6 {ds : List PyData} (h : ∀ d ∈ ds, Nc 100 3 d) (hl : ds.length ≤ 9) : Nc 20000 12 (.list ds) := by
  have h1 := nca_of h
  exact (nc_lst (⟨h1.sh, h1.dp, by have := h1.co; omega⟩ : NcA 9900 3 ds)).mono (by omega) (by omega)
theorem nc_ints {ns : List Nat} (h : ∀ n ∈ ns, n < 9) : ∀ d ∈ intsD ns, Nc 100 3 d := fun d hd => by
  obtain ⟨n, hn, rfl⟩ := List.mem_map.mp hd
  have := h n hn
  exact (nc_iI (n : Int) (by omega)).mono (by omega) (by omega)
def BadO (F : List Fk) (d : PyData) : Prop := seqB F d = false ∧ Nc 20000 12 d
def lateR (F : List Fk) (n j : Nat) : List (List Nat) := ((List.range j).filter fun i => (parF F i).isSome).map fun i => i :: (List.range n).filter fun k => decide (k ≠ i)
theorem late_succ (F : List Fk) (n j : Nat) : lateR F n (j + 1) = lateR F n j ++ (if (parF F j).isSome = true then [j :: (List.range n).filter fun k => decide (k ≠ j)] else []) := by
  unfold lateR
  rw [List.range_succ, List.filter_append, List.map_append]
  congr 1
  by_cases h : (parF F j).isSome = true
  · rw [if_pos h]; simp [h]
  · rw [if_neg h]; simp [h]
theorem late_len (F : List Fk) (n j : Nat) : (lateR F n j).length ≤ j := by
  unfold lateR
  rw [List.length_map]
  have := List.length_filter_le (fun i => (parF F i).isSome) (List.range j)
  rwa [List.length_range] at this
theorem late_bad {F : List Fk} (l4 : F.length ≤ 4) {r : List Nat} (h : r ∈ lateR F F.length F.length) : BadO F (.list (intsD r)) := by
  unfold lateR at h
  obtain ⟨i, hi, rfl⟩ := List.mem_map.mp h
  rw [List.mem_filter, List.mem_range] at hi
  obtain ⟨q, hq⟩ := Option.isSome_iff_exists.mp hi.2
  refine ⟨bad_par hq, nc_list6 (nc_ints fun n hn => ?_) ?_⟩
  · rcases List.mem_cons.mp hn with rfl | hn
    · omega
    · have := List.mem_range.mp ((List.mem_filter.mp hn).1)
      omega
  · rw [intsD_len, List.length_cons]
    have := List.length_filter_le (fun k => decide (k ≠ i)) (List.range F.length)
    rw [List.length_range] at this
    omega
theorem Rs.dq {K : PySem.W.Frag} {H0 G : Hp} {D p : Addr} {o : HO} (hp : H0 p = some o) : ∀ {as : List Addr} {rss : List (List Nat)}, Rs H0 D G as rss → DqAll K p G (as.map V.ref) (rss.map fun r => .list (intsD r))
  | [], [], _ => .nil
  | a :: as, r :: rss, h => by
    obtain ⟨h1, h2, h3, h4⟩ := h.2 0 a r rfl rfl
    refine .cons (.lst (fun z => by rw [z, hp] at h3; cases h3) h2 h1 (ints_dq r)) (Rs.dq hp ⟨by have := h.1; simpa using this, fun i b s hb hs => h.2 (i + 1) b s hb hs⟩)
  | [], r :: rss, h => by have := h.1; simp at this
  | a :: as, [], h => by have := h.1; simp at this
theorem nc_some {n : Nat} (h : n ≤ 4) : ∀ d, d ∈ oD n ∨ d ∈ (oD n).drop 1 ∨ d ∈ (oD n).take 1 ∨ d ∈ (oD n).take ((oD n).length - 1) → Nc 100 3 d := fun d hd => by
  rcases hd with hd | hd | hd | hd
  · exact oD_nc h d hd
  · exact oD_nc h d (List.mem_of_mem_drop hd)
  · exact oD_nc h d (List.mem_of_mem_take hd)
  · exact oD_nc h d (List.mem_of_mem_take hd)
theorem some_bad {F : List Fk} (l1 : 1 ≤ F.length) (l4 : F.length ≤ 4) : ∀ d ∈ someD F.length, BadO F d := by
  have ol := oD_len F.length
  have nc := nc_some l4
  have nI : ∀ i : Int, i.natAbs < 2 ^ 8 → Nc 100 3 (.int i) := fun i h => (nc_iI i h).mono (by omega) (by omega)
  refine List.forall_mem_cons.mpr ⟨⟨rfl, nc_none.mono (by omega) (by omega)⟩, List.forall_mem_cons.mpr ⟨⟨rfl, ?_⟩, List.forall_mem_cons.mpr ⟨⟨bad_len ?_, nc_list6 (fun d hd => ?_) ?_⟩, List.forall_mem_cons.mpr ⟨⟨bad_len ?_, nc_list6 (fun d hd => nc d (.inr (.inl hd))) ?_⟩, List.forall_mem_cons.mpr ⟨⟨bad_in (d := .int (F.length : Nat)) (by simp) ?_, nc_list6 (fun d hd => ?_) ?_⟩, List.forall_mem_cons.mpr ⟨⟨bad_in (d := .bool false) (by simp) rfl, nc_list6 (fun d hd => ?_) ?_⟩, List.forall_mem_cons.mpr ⟨⟨bad_in (d := .none) (by simp) rfl, nc_list6 (fun d hd => ?_) ?_⟩, fun _ h => nomatch h⟩⟩⟩⟩⟩⟩⟩
  · have h1 := nca_of (fun d hd => nc d (.inl hd))
    exact (nc_tup (⟨h1.sh, h1.dp, by have := h1.co; omega⟩ : NcA 9900 3 (oD F.length))).mono (by omega) (by omega)
  · rw [List.length_append, ol]; show F.length + 1 ≠ _; omega
  · rcases List.mem_append.mp hd with h | h
    · exact nc d (.inl h)
    · rw [List.mem_singleton.mp h]; exact nI 0 (by decide)
  · rw [List.length_append, ol]; show F.length + 1 ≤ _; omega
  · rw [List.length_drop, ol]; omega
  · rw [List.length_drop, ol]; omega
  · show (true && (decide ((0 : Int) ≤ (F.length : Nat)) && decide (((F.length : Nat) : Int) < (F.length : Nat)))) = false
    rw [decide_eq_false (p := ((F.length : Nat) : Int) < (F.length : Nat)) (by omega), Bool.and_false, Bool.and_false]
  · rcases List.mem_append.mp hd with h | h
    · exact nc d (.inr (.inr (.inr h)))
    · rw [List.mem_singleton.mp h]; exact nI _ (by omega)
  · rw [List.length_append, List.length_take, ol]; show _ + 1 ≤ _; omega
  · rcases List.mem_append.mp hd with h | h
    · rw [List.mem_singleton.mp h]; exact (nc_bool false).mono (by omega) (by omega)
    · exact nc d (.inr (.inl h))
  · rw [List.length_append, List.length_drop, ol]; show 1 + _ ≤ _; omega
  · rcases List.mem_append.mp hd with h | h
    · exact nc d (.inl h)
    · rw [List.mem_singleton.mp h]; exact nc_none.mono (by omega) (by omega)
  · rw [List.length_append, ol]; show F.length + 1 ≤ _; omega
theorem more_bad {F : List Fk} (l1 : 1 < F.length) (l4 : F.length ≤ 4) : ∀ d ∈ moreD F.length, BadO F d := by
  have ol := oD_len F.length
  have nc := nc_some l4
  have tk : ∀ m, m ≤ F.length → (oD F.length).take m = intsD (List.range m) := fun m hm => by
    unfold oD
    rw [intsD_take, List.take_range, Nat.min_eq_left hm]
  obtain ⟨m, hm⟩ : ∃ m, F.length = m + 2 := ⟨F.length - 2, by omega⟩
  refine List.forall_mem_cons.mpr ⟨⟨?_, nc_list6 (fun d hd => ?_) ?_⟩, List.forall_mem_cons.mpr ⟨⟨?_, nc_list6 (fun d hd => ?_) ?_⟩, fun _ h => nomatch h⟩⟩
  · rw [tk _ (by omega), tk 1 (by omega), ← intsD_app, ol]
    exact bad_dup (i := 0) (b := []) (List.mem_range.mpr (by omega))
  · rcases List.mem_append.mp hd with h | h
    · exact nc d (.inr (.inr (.inr h)))
    · exact nc d (.inr (.inr (.inl h)))
  · rw [List.length_append, List.length_take, List.length_take, ol]; omega
  · rw [tk 1 (by omega), tk _ (by omega), ← intsD_app, ol]
    have e : List.range (F.length - 1) = 0 :: (List.range m).map Nat.succ := by
      rw [show F.length - 1 = m + 1 by omega, List.range_succ_eq_map]
    rw [e]
    exact bad_dup (i := 0) (a := List.range 1) (List.mem_range.mpr (by omega))
  · rcases List.mem_append.mp hd with h | h
    · exact nc d (.inr (.inr (.inl h)))
    · exact nc d (.inr (.inr (.inr h)))
  · rw [List.length_append, List.length_take, List.length_take, ol]; omega
theorem last_bad {F : List Fk} (l1 : 1 ≤ F.length) (l4 : F.length ≤ 4) : ∀ d ∈ lastD F.length, BadO F d := by
  have ol := oD_len F.length
  have nc := nc_some l4
  refine List.forall_mem_cons.mpr ⟨⟨bad_in (d := .str "0") (by simp) rfl, nc_list6 (fun d hd => ?_) ?_⟩, List.forall_mem_cons.mpr ⟨⟨bad_in (d := .list [.int 0]) (by simp) rfl, nc_list6 (fun d hd => ?_) ?_⟩, List.forall_mem_cons.mpr ⟨⟨bad_in (d := .int (-1)) (by simp) rfl, nc_list6 (fun d hd => ?_) ?_⟩, fun _ h => nomatch h⟩⟩⟩
  · rcases List.mem_append.mp hd with h | h
    · rw [List.mem_singleton.mp h]; exact (nc_str (x := "0") (c := 5) (by decide +kernel)).mono (by omega) (by omega)
    · exact nc d (.inr (.inl h))
  · rw [List.length_append, List.length_drop, ol]; show 1 + _ ≤ _; omega
  · rcases List.mem_append.mp hd with h | h
    · rw [List.mem_singleton.mp h]; exact (nc_lst (nca_cons (nc_iI 0 (by decide)) nca_nil)).mono (by omega) (by omega)
    · exact nc d (.inr (.inl h))
  · rw [List.length_append, List.length_drop, ol]; show 1 + _ ≤ _; omega
  · rcases List.mem_append.mp hd with h | h
    · exact nc d (.inr (.inr (.inr h)))
    · rw [List.mem_singleton.mp h]; exact (nc_iI (-1) (by decide)).mono (by omega) (by omega)
  · rw [List.length_append, List.length_take, ol]; show _ + 1 ≤ _; omega
section
variable {P : Program} {w : World} {K : PySem.W.Frag} {mg : Str → Option Value} {base : Heap}
def spOdo (K : PySem.W.Frag) : Sp := fun vs H Q _ => ∃ (p a : Addr) (v : V) (F : List Fk) (N : Nat), vs = [.ref p, v] ∧ Pen H p a N ∧ N ≤ 900 ∧ Dq K p H v (gsD F) ∧ GrpOk F ∧
  ∀ (x : V) (d : PyData) (H' : Hp), ExB p H H' → Pen H' p a (N + 2) → Dq K p H' x d → seqB F d = false → Nc 20000 12 d → Q x H'
theorem ok__law_odd_order (T : Txt K mg) : FnOk P w K mg base CX0 4 T.d__law_odd_order.a T.d__law_odd_order.fd ["_law_pen", "_law_group_here"] (spOdo K) := by
  refine T.d__law_odd_order.F.ok sc__law_odd_order (fun vs H Q E h => ?_) (fun cdv A outer s H vs Q E hr h => ?_)
  · obtain ⟨p, a, v, F, N, rfl, _⟩ := h
    rfl
  · obtain ⟨p, a, v, F, N, rfl, hp, hN, hv, ok, k⟩ := h
    refine ⟨_, (pss_cons (ps_set (i := 2) sc__law_odd_order.nd rfl (Or.inr rfl) (pe_listRg rfl (by rfl) T.n_list (prg_1 (by rfl) T.n_range (pe_callB call_len_seq (by rfl) T.n_len (by decide +kernel) (pa_cons (pv 1) pa_nil)))))
      (pss_cons (ps_setLc (i := 3) (own := [("_law_number", 5)]) (g := gName 5) (te := (tOp rCatN (tLstN (tCons (tVar 5) tNil)) (tLc (iList K (tVar 2)) (gName 6) (tTest (tOp rNe (tVar 6) (tVar 5))) (tVar 6) [6]))) (tt := (tTest (tOp (fun x y H Q => y = V.non ∧ Q (V.bl !decide (x = V.non)) H) (tOp (rIxT K) (tOp (rIxT K) (tVar 1) (tVar 5)) (tC (.int 2))) (tC .non)))) rfl sc__law_odd_order.nd rfl rfl (sw_true rfl rfl rfl (by decide +kernel)) (pi_list (pv 2)) (blkOk_by (own := [("_law_number", 5)]) (N := n__law_odd_order) (sc := defScope s__law_odd_order) (by decide +kernel)) (fun _ _ _ _ _ => pg_name (i := 5) sc__law_odd_order.nd rfl (Or.inr rfl)) (fun _ _ _ _ _ => pts_one (pt_cmpR op_notN (pe_ix ix_tup (pe_ix ix_tup (pv 1) (pv 5) (fun _ _ => rfl)) pe_int (fun _ _ => rfl)) pe_non (nomark _))) (fun _ _ _ _ _ => (pe_op op_catN (pe_lstN (pa_cons (pv 5) pa_nil)) (pe_lc (own := [("_law_one_here", 6)]) (g := gName 6) rfl sc__law_odd_order.nd (pi_list (pv 2)) (blkOk_by (own := [("_law_one_here", 6)]) (N := n__law_odd_order) (by kernel_rfl)) (fun _ _ _ _ _ => pg_name (i := 6) sc__law_odd_order.nd rfl (Or.inl rfl)) (fun _ _ _ _ _ => pts_one (pt_cmpR op_ne (pv 6) (pv 5) (nomark _))) (fun _ _ _ _ _ => (pv 6))))))
      (pss_cons (ps_set (i := 4) sc__law_odd_order.nd rfl (Or.inl rfl) (pe_lstN (pa_cons pe_non (pa_cons (pe_callTy call_tuple_of (by rfl) T.n_tuple (by decide +kernel) (pa_cons (pv 2) pa_nil)) (pa_cons (pe_op op_catN (pv 2) (pe_lstN (pa_cons pe_int pa_nil))) (pa_cons (pe_slice sl_listN (pv 2) (po_some pe_int) po_none) (pa_cons (pe_op op_catN (pe_slice sl_listN (pv 2) po_none (po_some (pe_un un_neg pe_int))) (pe_lstN (pa_cons (pe_callB call_len_seq (by rfl) T.n_len (by decide +kernel) (pa_cons (pv 1) pa_nil)) pa_nil))) (pa_cons (pe_op op_catN (pe_lstN (pa_cons pe_bl pa_nil)) (pe_slice sl_listN (pv 2) (po_some pe_int) po_none)) (pa_cons (pe_op op_catN (pv 2) (pe_lstN (pa_cons pe_non pa_nil))) pa_nil)))))))))
      (pss_cons (ps_if (pt_cmpR op_gt (pe_callB call_len_seq (by rfl) T.n_len (by decide +kernel) (pa_cons (pv 1) pa_nil)) pe_int (nomark _)) (pss_one (ps_set (i := 3) sc__law_odd_order.nd rfl (Or.inl rfl) (pe_op op_cat (pv 3) (pe_lstN (pa_cons (pe_op op_catN (pe_slice sl_listN (pv 2) po_none (po_some (pe_un un_neg pe_int))) (pe_slice sl_listN (pv 2) po_none (po_some pe_int))) (pa_cons (pe_op op_catN (pe_slice sl_listN (pv 2) po_none (po_some pe_int)) (pe_slice sl_listN (pv 2) po_none (po_some (pe_un un_neg pe_int)))) pa_nil)))))) pss_nil)
      (pss_one (ps_ret (pe_call (ok__law_one T) (hr.mono (by decide)) (by rfl) T.d__law_one.g T.d__law_one.F.kp T.d__law_one.b .nil pass0 (pa_cons (pv 0) (pa_cons (pe_op op_cat (pv 3) (pe_lstN (pa_cons (pe_call (ok__law_one T) (hr.mono (by decide)) (by rfl) T.d__law_one.g T.d__law_one.F.kp T.d__law_one.b .nil pass0 (pa_cons (pv 0) (pa_cons (pv 4) pa_nil))) (pa_cons (pe_op op_catN (pe_lstN (pa_cons pe_str pa_nil)) (pe_slice sl_listN (pv 2) (po_some pe_int) po_none)) (pa_cons (pe_op op_catN (pe_lstN (pa_cons (pe_lstN (pa_cons pe_int pa_nil)) pa_nil)) (pe_slice sl_listN (pv 2) (po_some pe_int) po_none)) (pa_cons (pe_op op_catN (pe_slice sl_listN (pv 2) po_none (po_some (pe_un un_neg pe_int))) (pe_lstN (pa_cons (pe_un un_neg pe_int) pa_nil))) pa_nil)))))) pa_nil))))))))), ?_⟩
    have l1 := ok.one
    have l4 := ok.four
    obtain ⟨c, xs, rfl, hS, hA⟩ := hv.seq
    have xl : xs.length = F.length := by rw [hA.len, List.length_map]
    obtain ⟨xp, hxp⟩ := hp.hasP
    obtain ⟨xa, hxa⟩ := hp.hasC
    have lenG : ∀ {H1 : Hp}, Ex H H1 → ∀ {σ : L2.St} {i : Nat}, σ[i]? = some (some (.ref c)) → Ev (tCB (fun xs H_1 Q => ∃ p ys, xs = [V.ref p] ∧ (SqL K H_1 p ys ∨ SqT K H_1 p ys) ∧ Q (V.int ys.length) H_1) (tCons (tVar i) tNil)) σ H1 (.int (F.length : Int)) := fun {_} e {_ _} h H2 e2 Q k => ⟨_, h, c, xs, rfl, .inr (ex_t (e.trans e2) hS), by rw [xl]; exact k H2 (Ex.refl _)⟩
    -- the order
    refine n_seq ?_
    refine ⟨_, rfl, c, xs, rfl, .inr hS, (xs.length : Int), rfl, RgOk.of_le (by omega) (by omega) (by omega) (by omega), fun O fO => ?_⟩
    rw [rgV_ints, xl]
    have xO := Ex.new (o := .lst (intsV (List.range F.length))) fO
    have hO : (upd H O (.lst (intsV (List.range F.length)))) O = some (.lst (intsV (List.range F.length))) := upd_same
    generalize upd H O (.lst (intsV (List.range F.length))) = H1 at xO hO
    have nOp : O ≠ p := (ne_of_none hxp fO).symm
    dsimp only
    have ol : (intsV (List.range F.length)).length = F.length := by rw [intsV_len, List.length_range]
    -- numbers ahead of their guards
    refine n_seq ?_
    refine ⟨_, rfl, O, rfl, ⟨_, SqL.of hO⟩, fun D nD => ?_⟩
    have nHD : H D = none := none_ex xO nD
    have nOD : O ≠ D := ne_of_none hO nD
    refine lc_list (K := K) (a := O) (xs := intsV (List.range F.length)) (fun j G => Ex H1 G ∧ ∃ as, G D = some (.lst (as.map V.ref)) ∧ Rs H D G as (lateR F F.length j)) ⟨Ex.new nD, [], upd_same, Rs.nil⟩ (fun j G _ h => SqL.of (h.1 _ _ hO)) ?_ ?_
    · rintro j x G hx ⟨ex, as, hD, rs⟩
      obtain ⟨i, hi, rfl⟩ := intsV_at hx
      obtain ⟨il, rfl⟩ : i < F.length ∧ i = j := by
        rw [List.getElem?_eq_some_iff] at hi
        obtain ⟨h1, h2⟩ := hi
        rw [List.length_range] at h1
        rw [List.getElem_range] at h2
        omega
      obtain ⟨t, ht⟩ : ∃ t, F[i]? = some t := ⟨_, List.getElem?_eq_getElem il⟩
      have exH := xO.trans ex
      refine n_name ?_
      refine ⟨rfl, ?_⟩
      refine rd_gd (i := 1) (j := 5) rfl (Dq.ex exH _ _ hv) rfl ht ?_
      refine ⟨rfl, _, rfl, ?_⟩
      rw [late_succ, parF_at ht]
      cases hpt : t.par with
      | none =>
        rw [show (!decide (optV none = V.non)) = false from rfl, if_neg (by decide), if_neg (by decide), List.append_nil]
        exact ⟨ex, as, hD, rs⟩
      | some q =>
        rw [show (!decide (optV (some q) = V.non)) = true from rfl, if_pos rfl, if_pos (show (some q).isSome = true from rfl)]
        refine ⟨_, rfl, by show 1 ≤ sizeLine; decide, fun b5 f5 _ => ?_⟩
        have x5 := Ex.new (o := .lst [.int (i : Nat)]) f5
        have hO5 := (ex.trans x5) _ _ hO
        refine ⟨_, rfl, O, rfl, ⟨_, SqL.of hO5⟩, fun D2 nD2 => ?_⟩
        have n52 : b5 ≠ D2 := ne_of_none (H := upd G b5 (.lst [.int (i : Nat)])) upd_same nD2
        refine lc_list (K := K) (a := O) (xs := intsV (List.range F.length)) (fun k G2 => Ex (upd G b5 (.lst [.int (i : Nat)])) G2 ∧ G2 D2 = some (.lst (intsV ((List.range k).filter fun k => decide (k ≠ i))))) ⟨Ex.new nD2, upd_same⟩ (fun k G2 _ h => SqL.of (h.1 _ _ hO5)) ?_ ?_
        · rintro k2 x2 G2 hx2 ⟨ex2, hD2⟩
          obtain ⟨i2, hi2, rfl⟩ := intsV_at hx2
          obtain ⟨il2, rfl⟩ : i2 < F.length ∧ i2 = k2 := by
            rw [List.getElem?_eq_some_iff] at hi2
            obtain ⟨h1, h2⟩ := hi2
            rw [List.length_range] at h1
            rw [List.getElem_range] at h2
            omega
          refine n_name ?_
          refine ⟨rfl, ?_⟩
          refine ⟨_, rfl, _, rfl, rfl, _, rfl, ?_⟩
          have e0 : (!decide (V.int ((i2 : Nat) : Int) = V.int ((i : Nat) : Int))) = decide (i2 ≠ i) := by
            rw [Bool.eq_iff_iff, Bool.not_eq_true', decide_eq_false_iff_not, decide_eq_true_iff, V.int.injEq]
            omega
          rw [e0, List.range_succ, List.filter_append]
          by_cases ce : i2 = i
          · rw [decide_eq_false (by omega)]
            refine iteF ?_
            refine ⟨ex2, ?_⟩
            rw [hD2]
            simp [ce]
          · rw [decide_eq_true ce]
            refine iteT ?_
            refine ⟨_, rfl, _, hD2, small1000 (by rw [intsV_len]; have := List.length_filter_le (fun k => decide (k ≠ i)) (List.range i2); rw [List.length_range] at this; omega), Ex.mut ex2 nD2, ?_⟩
            rw [upd_same]
            unfold intsV
            simp [ce]
        · rintro G2 ⟨ex2, hD2⟩
          rw [ol] at hD2
          have fl : ((List.range F.length).filter fun k => decide (k ≠ i)).length ≤ F.length := by
            have := List.length_filter_le (fun k => decide (k ≠ i)) (List.range F.length)
            rwa [List.length_range] at this
          refine ⟨b5, D2, [.int (i : Nat)], _, rfl, rfl, ex2 _ _ upd_same, hD2, Nat.le_of_lt (small1000 (by rw [intsV_len]; show 1 + _ ≤ 1000; omega)), fun cc fc cm => ?_⟩
          have xc := Ex.new (o := .lst ([.int (i : Nat)] ++ intsV ((List.range F.length).filter fun k => decide (k ≠ i)))) fc
          have X3 := (x5.trans ex2).trans xc
          have hDc := X3 _ _ hD
          have ncD : cc ≠ D := (ne_of_none ((x5.trans ex2) _ _ hD) fc).symm
          refine ⟨_, hDc, small1000 (by rw [List.length_map, rs.1]; have := late_len F F.length i; omega), ?_⟩
          have hcn : H cc = none := none_ex (exH.trans (x5.trans ex2)) fc
          have R := (rs.ex (Ex.b X3)).snoc (a := cc) (r := i :: (List.range F.length).filter fun k => decide (k ≠ i)) upd_same cm hcn ncD
          refine ⟨Ex.mut (ex.trans X3) nD, as ++ [cc], ?_, R.ex (ExB.upd (ExB.refl D _))⟩
          rw [upd_same, List.map_append]
          rfl
    · rintro G ⟨ex, as, hD, rs⟩
      rw [ol] at rs
      have exH := xO.trans ex
      have hpG := hp.ex exH
      have hxG := exH _ _ hxp
      have late0 : LstD0 K p ((lateR F F.length F.length).map fun r => .list (intsD r)) (.ref D) G := ⟨D, _, rfl, (fun z => by rw [z, hxp] at nHD; cases nHD), hD, rs.dq hxp⟩
      have ord0 : LstD0 K p (oD F.length) (.ref O) G := ⟨O, _, rfl, nOp, ex _ _ hO, ints_dq _⟩
      have lbad : ∀ d ∈ (lateR F F.length F.length).map (fun r => PyData.list (intsD r)), BadO F d := fun d hd => by
        obtain ⟨r, hr, rfl⟩ := List.mem_map.mp hd
        exact late_bad l4 hr
      have llen : ((lateR F F.length F.length).map fun r => PyData.list (intsD r)).length ≤ 4 := by
        rw [List.length_map]
        have := late_len F F.length F.length
        omega
      generalize ((lateR F F.length F.length).map fun r => PyData.list (intsD r)) = lds at late0 lbad llen
      have dl := oD_len F.length
      refine n_name ?_
      dsimp only
      refine n_seq ?_
      refine s_asgP (el_lst (K := K) (p := p) (ds := someD F.length) hxG (eds_cons ed_none (eds_cons (ed_tupL rfl ord0) (eds_cons (el_dq (el_cat hxG (el_var0 rfl ord0) (el_0 (el_lst hxG (eds_cons ed_int eds_nil) (by show 1 ≤ 900; decide))) (by show _ + 1 ≤ 1000; omega))) (eds_cons (el_dq (el_lo (n := 1) hxG rfl ord0)) (eds_cons (el_dq (el_cat hxG (el_0 (el_neg hxG rfl ord0)) (el_0 (el_lst hxG (eds_cons (ed_ev (lenG exH rfl) fun _ => .int _) eds_nil) (by show 1 ≤ 900; decide))) (by rw [List.length_take]; show _ + 1 ≤ 1000; omega)))
        (eds_cons (el_dq (el_cat hxG (el_0 (el_lst hxG (eds_cons ed_bool eds_nil) (by show 1 ≤ 900; decide))) (el_0 (el_lo (n := 1) hxG rfl ord0)) (by rw [List.length_drop]; show 1 + _ ≤ 1000; omega))) (eds_cons (el_dq (el_cat hxG (el_var0 rfl ord0) (el_0 (el_lst hxG (eds_cons ed_none eds_nil) (by show 1 ≤ 900; decide))) (by show _ + 1 ≤ 1000; omega))) eds_nil))))))) (by show 7 ≤ 900; decide)) fun sv G2 e2 hsv => ?_
      dsimp only
      have exH2 := exH.trans e2
      have hx2 := exH2 _ _ hxp
      have ord2 := ord0.ex e2
      have late2 := late0.ex e2
      refine s_join (fun σ G' => ∃ lv ds, σ = [some (.ref p), some (.ref c), some (.ref O), some lv, some sv, none, none] ∧ Ex G2 G' ∧ LstD0 K p ds lv G' ∧ (∀ d ∈ ds, BadO F d) ∧ ds.length ≤ 8) (fun NN hN' => ?_) ?_
      · refine s_if (b := decide ((1 : Int) < (F.length : Int))) (et_test (ev_op (lenG exH2 rfl) ev_c rv_I0)) (fun hc G3 e3 => ?_) (fun hc G3 e3 => ?_)
        · have hc' := of_decide_eq_true hc
          have hx3 := e3 _ _ hx2
          have ord3 := ord2.ex e3
          refine s_asgP (el_cat0 (K := K) (p := p) (ds := lds) (es := moreD F.length) hx3 (el_var0 rfl (late2.ex e3)) (el_0 (el_lst hx3 (eds_cons (el_dq (el_cat hx3 (el_0 (el_neg hx3 rfl ord3)) (el_0 (el_hi (n := 1) hx3 rfl ord3)) (by rw [List.length_take, List.length_take]; omega))) (eds_cons (el_dq (el_cat hx3 (el_0 (el_hi (n := 1) hx3 rfl ord3)) (el_0 (el_neg hx3 rfl ord3)) (by rw [List.length_take, List.length_take]; omega))) eds_nil)) (by show 2 ≤ 900; decide))) (by show _ + 2 ≤ 1000; omega)) fun lv G4 e4 hlv => ?_
          refine hN' _ _ ⟨lv, _, rfl, e3.trans e4, hlv, fun d hd => ?_, by rw [List.length_append]; show _ + 2 ≤ 8; omega⟩
          rcases List.mem_append.mp hd with h | h
          · exact lbad d h
          · exact more_bad (by omega) l4 d h
        · refine n_next ?_
          exact hN' _ _ ⟨_, lds, rfl, e3, late2.ex e3, lbad, by omega⟩
      · rintro σ G' ⟨lv, ds, rfl, e3, hlv, dbad, dlen⟩
        have exH3 := exH2.trans e3
        have hp3 := hp.ex exH3
        have hx3 := exH3 _ _ hxp
        obtain ⟨sl, svs, rfl, snp, _, hsl, sqs⟩ := hsv
        have hsl3 := e3 _ _ hsl
        have sq3 := DqAll.ex e3 _ _ sqs
        have sl7 : svs.length = 7 := sqs.len
        have ord3 := ord2.ex e3
        refine ⟨_, rfl, _, rfl, ?_⟩
        refine ⟨_, rfl, _, rfl, p, a, sl, svs, N, rfl, hp3, hsl3, snp, by omega, by omega, by omega, fun x G4 hx eb4 hp4 => ?_⟩
        obtain ⟨d0, hd0, qd0⟩ := sq3.mem x hx
        have qd04 := Dq.exb hx3 eb4 _ _ qd0
        have hlv4 := hlv.exb hx3 eb4
        have ord4 := ord3.exb hx3 eb4
        obtain ⟨x4, hx4⟩ := hp4.hasP
        have hE : EvDs K p (tCons (tOp rCatN (tLstN (tCons (tC (.str "0")) tNil)) (tSl (rSlN K) (tVar 2) (tPart (tC (.int ((1 : Nat) : Int)))) tNoPart)) (tCons (tOp rCatN (tLstN (tCons (tLstN (tCons (tC (.int 0)) tNil)) tNil)) (tSl (rSlN K) (tVar 2) (tPart (tC (.int ((1 : Nat) : Int)))) tNoPart)) (tCons (tOp rCatN (tSl (rSlN K) (tVar 2) tNoPart (tPart (tUn (rU fun i => .int (-i)) (tC (.int 1))))) (tLstN (tCons (tUn (rU fun i => .int (-i)) (tC (.int 1))) tNil))) tNil)))
            [some (.ref p), some (.ref c), some (.ref O), some lv, some (.ref sl), none, none] G4 (lastD F.length) := eds_cons (el_dq (el_cat hx4 (el_0 (el_lst hx4 (eds_cons ed_str eds_nil) (by show 1 ≤ 900; decide))) (el_0 (el_lo (n := 1) hx4 rfl ord4)) (by rw [List.length_drop]; show 1 + _ ≤ 1000; omega))) (eds_cons (el_dq (el_cat hx4 (el_0 (el_lst hx4 (eds_cons (el_dq (el_lst hx4 (eds_cons ed_int eds_nil) (by show 1 ≤ 900; decide))) eds_nil) (by show 1 ≤ 900; decide))) (el_0 (el_lo (n := 1) hx4 rfl ord4)) (by rw [List.length_drop]; show 1 + _ ≤ 1000; omega))) (eds_cons (el_dq (el_cat hx4 (el_0 (el_neg hx4 rfl ord4)) (el_0 (el_lst hx4 (eds_cons ed_neg eds_nil) (by show 1 ≤ 900; decide))) (by rw [List.length_take]; show _ + 1 ≤ 1000; omega))) eds_nil))
        refine hE G4 (Ex.refl _) _ fun ws G5 e5 qs => ?_
        have wl : ws.length = 3 := qs.len
        refine ⟨by rw [List.length_cons, wl]; show 4 ≤ sizeLine; decide, fun l5 f5 _ => ?_⟩
        have x5 := Ex.new (o := .lst (x :: ws)) f5
        obtain ⟨la, lvs, rfl, lnp, hla, lqs⟩ := hlv4.ex (e5.trans x5)
        have lal : lvs.length = ds.length := lqs.len
        refine ⟨la, l5, lvs, x :: ws, rfl, rfl, hla, upd_same, by rw [List.length_cons, wl]; exact Nat.le_of_lt (small1000 (by omega)), fun r fr => ?_⟩
        have xr := Ex.new (o := .lst (lvs ++ x :: ws)) fr
        have E5 := (e5.trans x5).trans xr
        have hp5 := hp4.ex E5
        have nrp : r ≠ p := (ne_of_none ((e5.trans x5) _ _ hx4) fr).symm
        have allq : DqAll K p (upd (upd G5 l5 (.lst (x :: ws))) r (.lst (lvs ++ x :: ws))) (lvs ++ x :: ws) (ds ++ d0 :: lastD F.length) := (DqAll.ex xr _ _ lqs).append (.cons (Dq.ex E5 _ _ qd04) (DqAll.ex (x5.trans xr) _ _ qs))
        refine ⟨p, a, r, lvs ++ x :: ws, N + 1, rfl, hp5, upd_same, nrp, by rw [List.length_append, List.length_cons]; omega, by rw [List.length_append, List.length_cons, wl]; omega, by omega, fun y G6 hy eb6 hp6 => ?_⟩
        obtain ⟨d, hd, qd⟩ := allq.mem y hy
        have hx5 := E5 _ _ hx4
        have qd6 := Dq.exb hx5 eb6 _ _ qd
        have bd : BadO F d := by
          rcases List.mem_append.mp hd with h | h
          · exact dbad d h
          · rcases List.mem_cons.mp h with rfl | h
            · exact some_bad l1 l4 d hd0
            · exact last_bad l1 l4 d h
        exact k y d G6 ((((Ex.b exH3).trans eb4).trans (Ex.b E5)).trans eb6) (hp6.mono (by omega)) qd6 bd.1 bd.2
end
/-! ### data evaluated while tables grow -/
def EvX (K : PySem.W.Frag) (p : Addr) (Ts : List Addr) (te : TE) (σ : L2.St) (H : Hp) (d : PyData) : Prop := ∀ H1, ExT H H1 → TBs Ts H1 → ∀ Q : VK, (∀ v H2, ExT H1 H2 → TBs Ts H2 → Dq K p H2 v d → Q v H2) → te σ H1 Q
def EvXs (K : PySem.W.Frag) (p : Addr) (Ts : List Addr) (ta : TA) (σ : L2.St) (H : Hp) (ds : List PyData) : Prop := ∀ H1, ExT H H1 → TBs Ts H1 → ∀ Q : List V → Hp → Prop, (∀ vs H2, ExT H1 H2 → TBs Ts H2 → DqAll K p H2 vs ds → Q vs H2) → ta σ H1 Q
def EvTX (Ts : List Addr) (t : TT) (σ : L2.St) (H : Hp) (b : Bool) : Prop := ∀ H1, ExT H H1 → TBs Ts H1 → ∀ Q : Bool → Hp → Prop, (∀ H2, ExT H1 H2 → TBs Ts H2 → Q b H2) → t σ H1 Q
theorem ifF {c : Bool} {A B : Prop} (h : c = false) (x : B) : if c = true then A else B := by
  subst h
  exact x
theorem nbool (b : Bool) : Nc 900000 60 (.bool b) := (nc_bool b).mono (by decide) (by decide)
theorem nsame {d e : PyData} (h : d = e) : (!decide (d.shown = e.shown)) = false := by
  subst h
  rw [decide_eq_true rfl]
  rfl
theorem Pen.xt {H H' : Hp} {p a : Addr} {N : Nat} (e : ExT H H') (h : Pen H p a N) : Pen H' p a N := by
  obtain ⟨cs, t, v, h1, h2, r⟩ := h
  exact ⟨cs, t, v, e.l h1, e.l h2, r⟩
theorem LstD0.xt {K : PySem.W.Frag} {p : Addr} {H H' : Hp} {ds : List PyData} {v : V} (e : ExT H H') (h : LstD0 K p ds v H) : LstD0 K p ds v H' := by
  obtain ⟨l, vs, rfl, n, h, q⟩ := h
  exact ⟨l, vs, rfl, n, e.l h, DqAll.xt e _ _ q⟩
section
variable {K : PySem.W.Frag} {p : Addr} {Ts : List Addr} {σ : L2.St} {H : Hp} {te tA tB' : TE} {ta tr : TA} {t u : TT} {d e : PyData} {ds : List PyData} {v : V} {i j : Nat} {E : XK} {D : Ends} {tu : TS} {xp : List V} {B Pj : Addr} {F : List Fk} {b : Bool} {ns : List Nat} {c : Int}
theorem x_of (h : ∀ G, ExT H G → EvD K p te σ G d) : EvX K p Ts te σ H d := fun H1 e1 t1 Q k => h H1 e1 H1 (Ex.refl _) Q fun v H2 e2 q => k v H2 (Ex.t e2) (t1.ex e2) q
theorem x_var (hv : σ[i]? = some (some v)) (hd : Dq K p H v d) : EvX K p Ts (tVar i) σ H d := fun H1 e1 t1 Q k => ⟨v, hv, k v H1 (ExT.refl _) t1 (Dq.xt e1 _ _ hd)⟩
theorem x_int {n : Int} : EvX K p Ts (tC (.int n)) σ H (.int n) := x_of fun _ _ => ed_int
theorem x_bool : EvX K p Ts (tC (.bl b)) σ H (.bool b) := x_of fun _ _ => ed_bool
theorem x_none : EvX K p Ts (tC .non) σ H .none := x_of fun _ _ => ed_none
theorem x_str {x : Str} : EvX K p Ts (tC (.str x)) σ H (.str x) := x_of fun _ _ => ed_str
theorem xs_nil : EvXs K p Ts tNil σ H [] := fun H1 e1 t1 Q k => k [] H1 (ExT.refl _) t1 .nil
theorem xs_cons (h : EvX K p Ts te σ H d) (hs : EvXs K p Ts tr σ H ds) : EvXs K p Ts (tCons te tr) σ H (d :: ds) := fun H1 e1 t1 Q k =>
  h H1 e1 t1 _ fun v H2 e2 t2 q => hs H2 (e1.trans e2) t2 _ fun vs H3 e3 t3 qs => k _ H3 (e2.trans e3) t3 (.cons (Dq.xt e3 _ _ q) qs)
theorem x_tup (h : EvXs K p Ts ta σ H ds) (hl : ds.length ≤ 1000) : EvX K p Ts (tTup ta) σ H (.tuple ds) := fun H1 e1 t1 Q k =>
  h H1 e1 t1 _ fun vs H2 e2 t2 qs => ⟨Nat.le_of_lt (small1000 (by rw [qs.len]; exact hl)), fun a fa => k _ _ (e2.trans (Ex.t (Ex.new fa))) (t2.ex (Ex.new fa)) (.tup (SqT.of upd_same) (DqAll.ex (Ex.new fa) _ _ qs))⟩
theorem x_lst (hx : H p = some (.lst xp)) (h : EvXs K p Ts ta σ H ds) (hl : ds.length ≤ 1000) : EvX K p Ts (tLstN ta) σ H (.list ds) := fun H1 e1 t1 Q k =>
  h H1 e1 t1 _ fun vs H2 e2 t2 qs => ⟨Nat.le_of_lt (small1000 (by rw [qs.len]; exact hl)), fun a fa fm => k _ _ (e2.trans (Ex.t (Ex.new fa))) (t2.ex (Ex.new fa)) (.lst (ne_of_none ((e1.trans e2).l hx) fa).symm fm upd_same (DqAll.ex (Ex.new fa) _ _ qs))⟩
theorem tx_same (hA : EvX K p Ts tA σ H d) (hB : EvX K p Ts tB' σ H d) (n : Nc 900000 60 d) : EvTX Ts (tNot (tB (tCall (spSame K) [] E (tCons tA (tCons tB' tNil))))) σ H false := fun H1 e1 t1 Q k =>
  hA H1 e1 t1 _ fun x H2 e2 t2 q => hB H2 (e1.trans e2) t2 _ fun y H3 e3 t3 r => ⟨p, x, y, d, d, rfl, Dq.xt e3 _ _ q, r, n, n, fun H4 e4 => ⟨_, rfl, by
    show Q (!decide (d.shown = d.shown)) H4
    rw [nsame rfl]
    exact k H4 ((e2.trans e3).trans (Ex.t e4)) (t3.ex e4)⟩⟩
theorem tx_or (h1 : EvTX Ts t σ H false) (h2 : EvTX Ts u σ H false) : EvTX Ts (tOr t u) σ H false := fun H1 e1 t1 Q k =>
  h1 H1 e1 t1 _ fun H2 e2 t2 => ifF rfl (h2 H2 (e1.trans e2) t2 _ fun H3 e3 t3 => k H3 (e2.trans e3) t3)
theorem s_skipX (h : EvTX Ts t σ H false) (ht : TBs Ts H) (k : ∀ G, ExT H G → TBs Ts G → D.nx σ G) : tIfS t tu tNext D σ H := h H (ExT.refl _) ht _ fun G e1 t1 => ifF rfl (n_next (k G e1 t1))
theorem x_grp (h : EvX K p Ts te σ H d) (hb : groupB d = b) : EvX K p Ts (tCall (spGrp K Ts) [] E (tCons te tNil)) σ H (.bool b) := fun H1 e1 t1 Q k =>
  h H1 e1 t1 _ fun v H2 e2 t2 q => ⟨p, v, d, rfl, q, t2, fun H3 e3 t3 => k _ H3 (e2.trans e3) t3 (by rw [hb]; exact .bl b)⟩
theorem x_go (h : EvX K p Ts tA σ H (gsD F)) (h' : EvX K p Ts tB' σ H e) (ok : GrpOk F) (hb : seqB F e = b) : EvX K p Ts (tCall (spGO K Ts B) [] E (tCons tA (tCons tB' tNil))) σ H (.bool b) := fun H1 e1 t1 Q k =>
  h H1 e1 t1 _ fun v H2 e2 t2 q => h' H2 (e1.trans e2) t2 _ fun w H3 e3 t3 r => ⟨p, v, w, _, e, rfl, Dq.xt e3 _ _ q, r, t3, .inr ⟨F, rfl, ok, fun H4 e4 t4 => k _ H4 ((e2.trans e3).trans e4) t4 (by rw [hb]; exact .bl b)⟩⟩
theorem x_gc (h : EvX K p Ts tA σ H (gsD F)) (h' : EvX K p Ts tB' σ H (.list (intsD ns))) (ok : GrpOk F) (hs : seqB F (.list (intsD ns)) = true) : EvX K p Ts (tCall (spGC K Ts B Pj (Rco K)) [] E (tCons tA (tCons tB' tNil))) σ H (frd (-worthF F ns)) := fun H1 e1 t1 Q k =>
  h H1 e1 t1 _ fun v H2 e2 t2 q => h' H2 (e1.trans e2) t2 _ fun w H3 e3 t3 r => ⟨p, v, w, _, _, rfl, Dq.xt e3 _ _ q, r, t3, .inr ⟨F, rfl, ok, .inr ⟨ns, rfl, hs, fun x H4 e4 t4 fx => k _ H4 ((e2.trans e3).trans e4) t4 (Fr.dq (b := 200) (K := K) (p := p) fx)⟩⟩⟩
/-- an order of the greatest worth, if there is one alone -/
theorem x_lo (hx : H p = some (.lst xp)) (h : EvX K p Ts te σ H (gsD F)) (ok : GrpOk F) (one : ∀ l, Full F 0 l → (∀ l', Full F 0 l' → worthF F l' ≤ worthF F l) → l = ns) : EvX K p Ts (tCall (spLO K Ts B) [] E (tCons te tNil)) σ H (.list (intsD ns)) := fun H1 e1 t1 Q k =>
  h H1 e1 t1 _ fun v H2 e2 t2 q => ⟨p, v, _, rfl, q, t2, .inr ⟨F, rfl, ok, fun l ord H3 e3 t3 new lm hl full most => by
    have := one ord full most
    subst this
    exact k _ H3 (e2.trans e3) t3 (.lst (new p _ ((e1.trans e2).l hx) (fun _ z => nomatch z)).symm lm hl (ints_dq ord))⟩⟩
theorem x_errA (hx : H p = some (.lst xp)) (hc : σ[i]? = some (some (.int c))) (h : EvX K p Ts tA σ H d) (h' : EvX K p Ts tB' σ H e) (hg : groupB d = false) : EvX K p Ts (tCall (spErr K Ts) [] E (tCons (tVar i) (tCons tA (tCons tB' tNil)))) σ H (wrong "BadGroup" d) := fun H1 e1 t1 Q k =>
  ⟨_, hc, h H1 e1 t1 _ fun v H2 e2 t2 q => h' H2 (e1.trans e2) t2 _ fun w H3 e3 t3 r => ⟨p, c, v, w, d, e, xp, rfl, ((e1.trans e2).trans e3).l hx, Dq.xt e3 _ _ q, r, t3, .inl ⟨hg, fun x H4 e4 t4 wr => k x H4 ((e2.trans e3).trans e4) t4 wr.choose_spec.choose_spec.2.2⟩⟩⟩
theorem x_errB (hx : H p = some (.lst xp)) (hc : σ[i]? = some (some (.int c))) (h : EvX K p Ts tA σ H (gsD F)) (h' : EvX K p Ts tB' σ H e) (ok : GrpOk F) (hs : seqB F e = false) (c01 : c = 0 ∨ c = 1) : EvX K p Ts (tCall (spErr K Ts) [] E (tCons (tVar i) (tCons tA (tCons tB' tNil)))) σ H (wrong "BadGroupOrder" e) := fun H1 e1 t1 Q k =>
  ⟨_, hc, h H1 e1 t1 _ fun v H2 e2 t2 q => h' H2 (e1.trans e2) t2 _ fun w H3 e3 t3 r => ⟨p, c, v, w, _, e, xp, rfl, ((e1.trans e2).trans e3).l hx, Dq.xt e3 _ _ q, r, t3, .inr ⟨F, rfl, ok, .inl ⟨hs, c01, fun x H4 e4 t4 wr => k x H4 ((e2.trans e3).trans e4) t4 wr.choose_spec.choose_spec.2.2⟩⟩⟩⟩
def dueD (F : List Fk) (ns : List Nat) : Nat → PyData
  | 0 => frd (-worthF F ns)
  | 1 => tmG F ns
  | _ => .bool true
theorem x_errC {m : Nat} (hx : H p = some (.lst xp)) (hc : σ[i]? = some (some (.int (m : Nat)))) (m2 : m ≤ 2) (h : EvX K p Ts tA σ H (gsD F)) (h' : EvX K p Ts tB' σ H (.list (intsD ns))) (ok : GrpOk F) (hs : seqB F (.list (intsD ns)) = true) : EvX K p Ts (tCall (spErr K Ts) [] E (tCons (tVar i) (tCons tA (tCons tB' tNil)))) σ H (fine (dueD F ns m)) := fun H1 e1 t1 Q k =>
  ⟨_, hc, h H1 e1 t1 _ fun v H2 e2 t2 q => h' H2 (e1.trans e2) t2 _ fun w H3 e3 t3 r => ⟨p, _, v, w, _, _, xp, rfl, ((e1.trans e2).trans e3).l hx, Dq.xt e3 _ _ q, r, t3, .inr ⟨F, rfl, ok, .inr ⟨ns, rfl, hs, by
    match m, m2 with
    | 0, _ => exact .inl ⟨rfl, fun x H4 e4 t4 qx => k x H4 ((e2.trans e3).trans e4) t4 qx⟩
    | 1, _ => exact .inr (.inl ⟨rfl, fun x H4 e4 t4 qx => k x H4 ((e2.trans e3).trans e4) t4 qx⟩)
    | 2, _ => exact .inr (.inr ⟨rfl, fun x H4 e4 t4 qx => k x H4 ((e2.trans e3).trans e4) t4 qx⟩)⟩⟩⟩⟩
end
/-! ### the law k64 -/
/-- the typed group -/
def dearF : List Fk := [⟨none, -3, 9 / 10⟩, ⟨some 0, 0, 1 / 10⟩, ⟨none, -2, 1 / 2⟩]
def dearD : PyData := .tuple [.tuple [.tuple [.int 3, .int 1], .tuple [.int 9, .int 10], .none], .tuple [.tuple [.int 0, .int 1], .tuple [.int 1, .int 10], .int 0], .tuple [.tuple [.int 2, .int 1], .tuple [.int 1, .int 2], .none]]
theorem frd_of {q : Rat} {n m : Int} (h1 : q.num = n) (h2 : (q.den : Int) = m) : frd q = .tuple [.int n, .int m] := by
  subst h1 h2
  rfl
theorem dear_eq : gsD dearF = dearD := by
  show PyData.tuple [.tuple [frd (-(-3)), frd (9 / 10), .none], .tuple [frd (-0), frd (1 / 10), .int ((0 : Nat) : Int)], .tuple [frd (-(-2)), frd (1 / 2), .none]] = _
  rw [frd_of (q := -(-3)) (n := 3) (m := 1) (by decide +kernel) (by decide +kernel), frd_of (q := 9 / 10) (n := 9) (m := 10) (by decide +kernel) (by decide +kernel), frd_of (q := -0) (n := 0) (m := 1) (by decide +kernel) (by decide +kernel), frd_of (q := 1 / 10) (n := 1) (m := 10) (by decide +kernel) (by decide +kernel), frd_of (q := -(-2)) (n := 2) (m := 1) (by decide +kernel) (by decide +kernel), frd_of (q := 1 / 2) (n := 1) (m := 2) (by decide +kernel) (by decide +kernel)]
  rfl
theorem dear_ok : GrpOk dearF := grp_of (by decide) (by decide) fun i t h => by
  match i, h with
  | 0, h =>
    cases h
    exact ⟨⟨by decide +kernel, by decide +kernel⟩, ⟨by decide +kernel, by decide +kernel⟩, by decide +kernel, by decide +kernel, fun q hq => nomatch hq⟩
  | 1, h =>
    cases h
    exact ⟨⟨by decide +kernel, by decide +kernel⟩, ⟨by decide +kernel, by decide +kernel⟩, by decide +kernel, by decide +kernel, fun q hq => by cases hq; decide⟩
  | 2, h =>
    cases h
    exact ⟨⟨by decide +kernel, by decide +kernel⟩, ⟨by decide +kernel, by decide +kernel⟩, by decide +kernel, by decide +kernel, fun q hq => nomatch hq⟩
  | n + 3, h => simp [dearF] at h
theorem dear_best : ∀ l ∈ rowsF dearF 3, l = [0, 1, 2] ∨ worthF dearF l < worthF dearF [0, 1, 2] := by decide +kernel
theorem dear_in : [0, 1, 2] ∈ rowsF dearF 3 := by decide +kernel
theorem dear_cost : frd (-worthF dearF [0, 1, 2]) = .tuple [.int 159, .int 50] := frd_of (by decide +kernel) (by decide +kernel)
theorem dear_seq : seqB dearF (.list (intsD [0, 1, 2])) = true := by decide +kernel
theorem seqB_full {F : List Fk} {l : List Nat} (h : Full F 0 l) : seqB F (.list (intsD l)) = true := by
  have := (mem_rows F F.length l).mp (full_iff.mp h)
  rw [seqB_ints, this.2, decide_eq_true this.1]
  rfl
theorem full_lt {F : List Fk} {l : List Nat} (h : Full F 0 l) : (∀ n ∈ l, n < F.length) ∧ l.length = F.length := by
  have := (mem_rows F F.length l).mp (full_iff.mp h)
  exact ⟨seqL_lt F l [] this.2, this.1⟩
theorem nc_int1 {n : Nat} (h : n < 200) : Nc 10 0 (.int (n : Nat)) := nc_iI (n : Int) (by omega)
theorem nc_fr {b : Nat} {q : Rat} (h : Bd b q) (h0 : 0 < b) (h1 : b ≤ 1900) : Nc (2 * b + 12) 1 (frd q) := nc_pair h.1 (bd_den h) h0 h1
theorem tmG_nc {F : List Fk} (ok : FOk F) : ∀ l : List Nat, Nc (300 * l.length + 30) (5 * l.length + 6) (tmG F l)
  | [] => nc_none.mono (by omega) (by omega)
  | [i] => by
    have r : Nc 200 3 (restD (facF F i)) := by
      have b1 : Bd 13 (1 - facF F i) := by
        have e : (1 : Rat) - facF F i = 1 + -(facF F i) := by grind
        rw [e]
        exact (Bd.add (show Bd 2 (1 : Rat) from ⟨by decide, by decide⟩) (ok.bfac i).neg).mono (by omega)
      exact (nc_tup (nca_cons ((nc_fr b1 (by omega) (by omega)).mono (Nat.le_refl _) (by omega : 1 ≤ 2)) (nca_cons ((nc_tup (nca_cons (nc_str (x := "end") (c := 5) (by decide +kernel)) nca_nil)).mono (Nat.le_refl _) (by omega)) nca_nil))).mono (by omega) (by omega)
    exact (nc_tup (nca_cons ((nc_str (x := "step") (c := 6) (by decide +kernel)).mono (Nat.le_refl _) (Nat.zero_le _)) (nca_cons ((nc_f10 (ok.bpay i)).mono (Nat.le_refl _) (by omega : 3 ≤ 4)) (nca_cons (nc_tup (nca_cons r nca_nil)) nca_nil)))).mono (by show _ ≤ 300 * 1 + 30; omega) (by show _ ≤ 5 * 1 + 6; omega)
  | i :: j :: r => by
    have ih := tmG_nc ok (j :: r)
    have rr : Nc 100 3 (restD (facF F i)) := by
      have b1 : Bd 13 (1 - facF F i) := by
        have e : (1 : Rat) - facF F i = 1 + -(facF F i) := by grind
        rw [e]
        exact (Bd.add (show Bd 2 (1 : Rat) from ⟨by decide, by decide⟩) (ok.bfac i).neg).mono (by omega)
      exact (nc_tup (nca_cons ((nc_fr b1 (by omega) (by omega)).mono (Nat.le_refl _) (by omega : 1 ≤ 2)) (nca_cons ((nc_tup (nca_cons (nc_str (x := "end") (c := 5) (by decide +kernel)) nca_nil)).mono (Nat.le_refl _) (by omega)) nca_nil))).mono (by omega) (by omega)
    have ff : Nc 40 3 (frd (facF F i)) := (nc_fr (ok.bfac i) (by omega) (by omega)).mono (by omega) (by omega)
    have pp : Nc 40 3 (frd (payF F i)) := (nc_fr (ok.bpay i) (by omega) (by omega)).mono (by omega) (by omega)
    generalize hL : (j :: r).length = L at ih
    have e2 : (i :: j :: r).length = L + 1 := by rw [List.length_cons, hL]
    rw [e2]
    exact (nc_tup (nca_cons ((nc_str (x := "step") (c := 6) (by decide +kernel)).mono (Nat.le_refl _) (Nat.zero_le _)) (nca_cons (pp.mono (Nat.le_refl _) (by omega : 3 ≤ 5 * L + 8)) (nca_cons (nc_tup (nca_cons (nc_tup (nca_cons (ff.mono (Nat.le_refl _) (by omega : 3 ≤ 5 * L + 6)) (nca_cons ih nca_nil))) (nca_cons (rr.mono (Nat.le_refl _) (by omega : 3 ≤ 5 * L + 6 + 1)) nca_nil))) nca_nil)))).mono (by omega) (by omega)
theorem nc_wrong {x : Str} {d : PyData} (hx : (reprText x).length ≤ 20) (hd : Nc 20000 12 d) : Nc 900000 60 (wrong x d) := (nc_tup (nca_cons ((nc_lst (nca_cons (nc_str hx) (nca_nil (e := 0)))).mono (Nat.le_refl _) (by decide : _ ≤ 12)) (nca_cons hd nca_nil))).mono (by decide) (by decide)
theorem nc_fine {d : PyData} {c e : Nat} (hd : Nc c e d) (hc : c ≤ 800000) (he : e ≤ 50) : Nc 900000 60 (fine d) := (nc_tup (nca_cons ((nc_str (x := "fine") (c := 6) (by decide +kernel)).mono (Nat.le_refl _) (Nat.zero_le _)) (nca_cons hd nca_nil))).mono (by omega) (by omega)
/-- deep equality: a list of numbers among lists of numbers -/
theorem eqv_ints : ∀ a : List Nat, PyData.eqvAll (intsD a) (intsD a) = true
  | [] => rfl
  | n :: a => by
    show (PyData.eqv (.int (n : Nat)) (.int (n : Nat)) && PyData.eqvAll (intsD a) (intsD a)) = true
    rw [eqv_ints a]
    simp [PyData.eqv]
theorem lay_ints : ∀ a : List Nat, PyData.canLayAll0 (intsD a) = true
  | [] => rfl
  | n :: a => by
    show (true && PyData.canLayAll0 (intsD a)) = true
    rw [lay_ints a]
    rfl
theorem dep_ints : ∀ a : List Nat, PyData.depthAll (intsD a) ≤ 1
  | [] => by simp [intsD, PyData.depthAll]
  | n :: a => by
    have := dep_ints a
    show PyData.depthAll (.int (n : Nat) :: intsD a) ≤ 1
    simp only [PyData.depthAll, PyData.depth]
    omega
def ordsD (F : List Fk) : List PyData := (rowsF F F.length).map fun r => .list (intsD r)
theorem shp1 (r : List Nat) : SeqAt.shaped (.list (intsD r)) = true := by
  have := dep_ints r
  show (PyData.canLayAll0 (intsD r) && decide (PyData.depth (.list (intsD r)) ≤ 64)) = true
  rw [lay_ints, Bool.true_and, decide_eq_true_iff]
  simp only [PyData.depth]
  omega
theorem lay_rows : ∀ rs : List (List Nat), PyData.canLayAll0 (rs.map fun r => .list (intsD r)) = true ∧ PyData.depthAll (rs.map fun r => .list (intsD r)) ≤ 3
  | [] => ⟨rfl, by simp [PyData.depthAll]⟩
  | r :: rs => by
    obtain ⟨h1, h2⟩ := lay_rows rs
    have h3 := dep_ints r
    constructor
    · show (PyData.canLayAll0 (intsD r) && PyData.canLayAll0 (rs.map fun r => .list (intsD r))) = true
      rw [lay_ints, h1]
      rfl
    · show PyData.depthAll (.list (intsD r) :: rs.map fun r => .list (intsD r)) ≤ 3
      simp only [PyData.depthAll, PyData.depth]
      omega
theorem shp2 (F : List Fk) : SeqAt.shaped (.list (ordsD F)) = true := by
  obtain ⟨h1, h2⟩ := lay_rows (rowsF F F.length)
  show (PyData.canLayAll0 (ordsD F) && decide (PyData.depth (.list (ordsD F)) ≤ 64)) = true
  unfold ordsD
  rw [h1, Bool.true_and, decide_eq_true_iff]
  simp only [PyData.depth]
  omega
theorem any_ord {F : List Fk} {l : List Nat} (h : Full F 0 l) : ((ordsD F).any fun z => PyData.eqv z (.list (intsD l))) = true := by
  rw [List.any_eq_true]
  refine ⟨.list (intsD l), List.mem_map.mpr ⟨l, full_iff.mp h, rfl⟩, ?_⟩
  simp only [PyData.eqv]
  exact eqv_ints l
theorem hd_ints : ∀ l : List Nat, PyData.hasDictAll (intsD l) = false
  | [] => rfl
  | n :: l => by
    show (false || PyData.hasDictAll (intsD l)) = false
    rw [hd_ints l]
    rfl
theorem hd_rows : ∀ rs : List (List Nat), PyData.hasDictAll (rs.map fun r => .list (intsD r)) = false
  | [] => rfl
  | r :: rs => by
    show (PyData.hasDictAll (intsD r) || PyData.hasDictAll (rs.map fun r => .list (intsD r))) = false
    rw [hd_ints, hd_rows rs]
    rfl
theorem LstD0.dp {K : PySem.W.Frag} {p : Addr} {H : Hp} {v : V} {ds : List PyData} (h : LstD0 K p ds v H) (hd : PyData.hasDictAll ds = false) : Dp K H v (.list ds) := by
  obtain ⟨l, vs, rfl, _, h, q⟩ := h
  exact .lst (SqL.of h) (DqAll.dp _ _ hd q)
theorem nc_ords {l : List Nat} (h : ∀ n ∈ l, n < 20) (hl : l.length ≤ 20) : Nc 9000 8 (.list (intsD l)) := by
  have h1 := nca_of (c := 10) (e := 0) (ds := intsD l) fun d hd => by
    obtain ⟨n, hn, rfl⟩ := List.mem_map.mp hd
    exact nc_int1 (by have := h n hn; omega)
  exact (nc_lst (⟨h1.sh, h1.dp, by have := h1.co; rw [intsD_len] at this; omega⟩ : NcA 8000 0 (intsD l))).mono (by omega) (by omega)
section
variable {K : PySem.W.Frag} {p : Addr} {σ : L2.St} {H : Hp} {i j : Nat} {v : V} {l : Addr} {F : List Fk} {ns : List Nat} {E : XK}
theorem ep_oc (ok : FOk F) (hi : σ[i]? = some (some v)) (hv : Dq K p H v (gsD F)) (hj : σ[j]? = some (some (.ref l))) (hl : H l = some (.lst (intsV ns))) (lt : ∀ n ∈ ns, n < F.length) (n8 : ns.length ≤ 8) : EvP (tCall (spOC K) [] E (tCons (tVar i) (tCons (tVar j) tNil))) σ H (Fr K 200 (-worthF F ns)) := fun H1 e Q k =>
  ⟨_, hi, _, hj, p, v, l, F, ns, rfl, Dq.ex e _ _ hv, ok, SqL.of (e _ _ hl), lt, n8, fun x H' e' f => k x H' e' (f.mono (by omega))⟩
theorem ed_gt (ok : FOk F) (hi : σ[i]? = some (some v)) (hv : Dq K p H v (gsD F)) (hj : σ[j]? = some (some (.ref l))) (hl : H l = some (.lst (intsV ns))) (lt : ∀ n ∈ ns, n < F.length) (n8 : ns.length ≤ 8) : EvD K p (tCall (spGT K) [] E (tCons (tVar i) (tCons (tVar j) tNil))) σ H (tmG F ns) := fun H1 e Q k =>
  ⟨_, hi, _, hj, p, v, l, F, ns, rfl, Dq.ex e _ _ hv, ok, SqL.of (e _ _ hl), lt, n8, fun x H' e' f => k x H' e' f⟩
end
theorem units65 {k : Nat} {A : Around} (r : Room k A) : A.units + 65 < cLine := by have := r.un; omega
theorem dear_one (l : List Nat) (h : Full dearF 0 l) (m : ∀ l', Full dearF 0 l' → worthF dearF l' ≤ worthF dearF l) : l = [0, 1, 2] := by
  rcases dear_best l (full_iff.mp h) with e | e
  · exact e
  · have := m [0, 1, 2] (full_iff.mpr dear_in)
    exfalso
    grind
theorem dear_nc : Nc 900000 60 (.list [.list (intsD [0, 1, 2]), .tuple [.int 159, .int 50]]) := (nc_lst (nca_cons (nc_ords (l := [0, 1, 2]) (by decide) (by decide)) (nca_cons ((nc_ii 159 50 (by decide) (by decide)).mono (Nat.le_refl _) (by decide : 3 ≤ 8)) nca_nil))).mono (by decide) (by decide)
/-! ### the law itself -/
section
variable {P : Program} {w : World} {K : PySem.W.Frag} {mg : Str → Option Value} {base : Heap}
def spLaw (K : PySem.W.Frag) (T : Addr) : Sp := fun vs H Q _ => ∃ (a : Addr) (ns : List Int), vs = [.ref a] ∧ SqL K H a (ns.map V.int) ∧ ns.length ≤ 63 ∧ GxR.TabG H T ∧ ∀ H', Q (.bl true) H'
set_option maxHeartbeats 0 in
theorem ok_law (T : Txt K mg) (tb : GxR.TabB base mg T.c_is_group T.P_is_group) : FnG P w K mg base 12 T.d_law.a T.d_law.fd ["_law_script"] (spLaw K T.P_is_group) := by
  refine okG T.d_law.F sc_law (fun vs H Q E h => ?_) (fun cdv A outer s H vs Q gd hr h => ?_)
  · obtain ⟨a, ns, rfl, _⟩ := h
    rfl
  · obtain ⟨a, ns, rfl, hS, hl, ht0, k⟩ := h
    have hu := hr.units
    have hu65 := units65 hr
    refine ⟨_, (pss_cons (ps_set (i := 1) sc_law.nd rfl (Or.inl rfl) (pe_call (ok__law_open T) (hr.mono (by decide)) (by rfl) T.d__law_open.g T.d__law_open.F.kp T.d__law_open.b .nil pass0 (pa_cons (pv 0) pa_nil)))
      (pss_cons (ps_set (i := 2) sc_law.nd rfl (Or.inl rfl) (pe_tup (pa_cons (pe_tup (pa_cons (pe_tup (pa_cons pe_int (pa_cons pe_int pa_nil))) (pa_cons (pe_tup (pa_cons pe_int (pa_cons pe_int pa_nil))) (pa_cons pe_non pa_nil)))) (pa_cons (pe_tup (pa_cons (pe_tup (pa_cons pe_int (pa_cons pe_int pa_nil))) (pa_cons (pe_tup (pa_cons pe_int (pa_cons pe_int pa_nil))) (pa_cons pe_int pa_nil)))) (pa_cons (pe_tup (pa_cons (pe_tup (pa_cons pe_int (pa_cons pe_int pa_nil))) (pa_cons (pe_tup (pa_cons pe_int (pa_cons pe_int pa_nil))) (pa_cons pe_non pa_nil)))) pa_nil)))))
      (pss_cons (ps_if (pt_not (pt_val (pe_callG (ok__law_same T) gd (hr.mono (by decide)) (by rfl) T.d__law_same.g T.d__law_same.F.kp T.d__law_same.b (pa_cons (pe_lstN (pa_cons (pe_call (E := E0) (ok_least_order T tb) (hr.mono (by decide)) (by rfl) T.d_least_order.g T.d_least_order.F.kp T.d_least_order.b .nil (passes_call takes_none5 fun _ _ _ _ h => h) (pa_cons (pv 2) pa_nil)) (pa_cons (pe_call (E := E0) (ok_group_cost T tb) (hr.mono (by decide)) (by rfl) T.d_group_cost.g T.d_group_cost.F.kp T.d_group_cost.b .nil (passes_call takes_none5 fun _ _ _ _ h => h) (pa_cons (pv 2) (pa_cons (pe_lstN (pa_cons pe_int (pa_cons pe_int (pa_cons pe_int pa_nil)))) pa_nil))) pa_nil))) (pa_cons (pe_lstN (pa_cons (pe_lstN (pa_cons pe_int (pa_cons pe_int (pa_cons pe_int pa_nil)))) (pa_cons (pe_tup (pa_cons pe_int (pa_cons pe_int pa_nil))) pa_nil))) pa_nil))))) (pss_one (ps_ret pe_bl)) pss_nil)
      (pss_cons (ps_for PassesOwn.never rfl (pi_range1 (by rfl) T.n_range (pa_cons pe_int pa_nil)) (pg_name (i := 3) sc_law.nd rfl (Or.inl rfl)) (pss_cons (ps_set (i := 4) sc_law.nd rfl (Or.inl rfl) (pe_call (ok__law_group T) (hr.mono (by decide)) (by rfl) T.d__law_group.g T.d__law_group.F.kp T.d__law_group.b .nil pass0 (pa_cons (pe_call (ok__law_anew T) (hr.mono (by decide)) (by rfl) T.d__law_anew.g T.d__law_anew.F.kp T.d__law_anew.b .nil pass0 (pa_cons (pv 1) pa_nil)) (pa_cons (pe_op op_add pe_int (pe_call (ok__law_take T) (hr.mono (by decide)) (by rfl) T.d__law_take.g T.d__law_take.F.kp T.d__law_take.b .nil pass0 (pa_cons (pv 1) (pa_cons pe_int pa_nil)))) pa_nil))))
      (pss_cons (ps_set (i := 5) sc_law.nd rfl (Or.inl rfl) (pe_call (ok__law_orders T) (hr.mono (by decide)) (by rfl) T.d__law_orders.g T.d__law_orders.F.kp T.d__law_orders.b .nil pass0 (pa_cons (pv 4) pa_nil)))
      (pss_cons (ps_set (i := 6) sc_law.nd rfl (Or.inl rfl) (pe_call (ok__law_one T) (hr.mono (by decide)) (by rfl) T.d__law_one.g T.d__law_one.F.kp T.d__law_one.b .nil pass0 (pa_cons (pv 1) (pa_cons (pv 5) pa_nil))))
      (pss_cons (ps_if (PW.pt (pw_or (pt_not (pt_val (pe_callG (ok__law_same T) gd (hr.mono (by decide)) (by rfl) T.d__law_same.g T.d__law_same.F.kp T.d__law_same.b (pa_cons (pe_call (ok_is_group T tb) (hr.mono (by decide)) (by rfl) T.d_is_group.g T.d_is_group.F.kp T.d_is_group.b .nil pass0 (pa_cons (pv 4) pa_nil)) (pa_cons pe_bl pa_nil))))) (pw_or1 (pt_not (pt_val (pe_callG (ok__law_same T) gd (hr.mono (by decide)) (by rfl) T.d__law_same.g T.d__law_same.F.kp T.d__law_same.b (pa_cons (pe_call (E := E0) (ok_is_group_order T tb) (hr.mono (by decide)) (by rfl) T.d_is_group_order.g T.d_is_group_order.F.kp T.d_is_group_order.b .nil (passes_call takes_none5 fun _ _ _ _ h => h) (pa_cons (pv 4) (pa_cons (pv 6) pa_nil))) (pa_cons pe_bl pa_nil)))))))) (pss_one (ps_ret pe_bl)) pss_nil)
      (pss_cons (ps_for PassesOwn.never rfl (pi_list (pe_lstN (pa_cons (pe_tup (pa_cons pe_int (pa_cons (pe_call (ok__law_order_cost T) (hr.mono (by decide)) (by rfl) T.d__law_order_cost.g T.d__law_order_cost.F.kp T.d__law_order_cost.b .nil pass0 (pa_cons (pv 4) (pa_cons (pv 6) pa_nil))) pa_nil))) (pa_cons (pe_tup (pa_cons pe_int (pa_cons (pe_call (ok__law_group_term T) (hr.mono (by decide)) (by rfl) T.d__law_group_term.g T.d__law_group_term.F.kp T.d__law_group_term.b .nil pass0 (pa_cons (pv 4) (pa_cons (pv 6) pa_nil))) pa_nil))) (pa_cons (pe_tup (pa_cons pe_int (pa_cons pe_bl pa_nil))) pa_nil))))) (pg_tup (by rfl) (pgs_cons (pg_name (i := 7) sc_law.nd rfl (Or.inl rfl)) (pgs_cons (pg_name (i := 8) sc_law.nd rfl (Or.inl rfl)) pgs_nil))) (pss_one (ps_if (pt_not (pt_val (pe_callG (ok__law_same T) gd (hr.mono (by decide)) (by rfl) T.d__law_same.g T.d__law_same.F.kp T.d__law_same.b (pa_cons (pe_call (ok__law_error T tb) (hr.mono (by decide)) (by rfl) T.d__law_error.g T.d__law_error.F.kp T.d__law_error.b .nil pass0 (pa_cons (pv 7) (pa_cons (pv 4) (pa_cons (pv 6) pa_nil)))) (pa_cons (pe_tup (pa_cons pe_str (pa_cons (pv 8) pa_nil))) pa_nil))))) (pss_one (ps_ret pe_bl)) pss_nil)))
      (pss_cons (ps_set (i := 9) sc_law.nd rfl (Or.inl rfl) (pe_call (E := E0) (ok_least_order T tb) (hr.mono (by decide)) (by rfl) T.d_least_order.g T.d_least_order.F.kp T.d_least_order.b .nil (passes_call takes_none5 fun _ _ _ _ h => h) (pa_cons (pv 4) pa_nil)))
      (pss_cons (ps_if (PW.pt (pw_or (pt_cmpR (op_notInD hu65) (pv 9) (pv 5) (by rfl)) (pw_or1 (pt_not (pt_val (pe_callG (ok__law_same T) gd (hr.mono (by decide)) (by rfl) T.d__law_same.g T.d__law_same.F.kp T.d__law_same.b (pa_cons (pe_call (E := E0) (ok_is_group_order T tb) (hr.mono (by decide)) (by rfl) T.d_is_group_order.g T.d_is_group_order.F.kp T.d_is_group_order.b .nil (passes_call takes_none5 fun _ _ _ _ h => h) (pa_cons (pv 4) (pa_cons (pv 9) pa_nil))) (pa_cons pe_bl pa_nil)))))))) (pss_one (ps_ret pe_bl)) pss_nil)
      (pss_cons (ps_if (pt_cmpR (op_neD hr.units) (pe_call (ok__law_order_cost T) (hr.mono (by decide)) (by rfl) T.d__law_order_cost.g T.d__law_order_cost.F.kp T.d__law_order_cost.b .nil pass0 (pa_cons (pv 4) (pa_cons (pv 9) pa_nil))) (pe_call (ok__law_least T) (hr.mono (by decide)) (by rfl) T.d__law_least.g T.d__law_least.F.kp T.d__law_least.b .nil pass0 (pa_cons (pv 4) pa_nil)) (nomark _)) (pss_one (ps_ret pe_bl)) pss_nil)
      (pss_cons (ps_par (i := 10) (j := 11) (by rfl) sc_law.nd rfl rfl (by decide) rfl rfl (pa_cons (pe_call (ok__law_odd_group T) (hr.mono (by decide)) (by rfl) T.d__law_odd_group.g T.d__law_odd_group.F.kp T.d__law_odd_group.b .nil pass0 (pa_cons (pv 1) (pa_cons (pv 4) pa_nil))) (pa_cons (pe_call (ok__law_odd_order T) (hr.mono (by decide)) (by rfl) T.d__law_odd_order.g T.d__law_odd_order.F.kp T.d__law_odd_order.b .nil pass0 (pa_cons (pv 1) (pa_cons (pv 4) pa_nil))) pa_nil)) (by rfl))
      (pss_cons (ps_if (pt_not (pt_val (pe_callG (ok__law_same T) gd (hr.mono (by decide)) (by rfl) T.d__law_same.g T.d__law_same.F.kp T.d__law_same.b (pa_cons (pe_lstN (pa_cons (pe_call (ok_is_group T tb) (hr.mono (by decide)) (by rfl) T.d_is_group.g T.d_is_group.F.kp T.d_is_group.b .nil pass0 (pa_cons (pv 10) pa_nil)) (pa_cons (pe_call (E := E0) (ok_is_group_order T tb) (hr.mono (by decide)) (by rfl) T.d_is_group_order.g T.d_is_group_order.F.kp T.d_is_group_order.b .nil (passes_call takes_none5 fun _ _ _ _ h => h) (pa_cons (pv 4) (pa_cons (pv 11) pa_nil))) pa_nil))) (pa_cons (pe_lstN (pa_cons pe_bl (pa_cons pe_bl pa_nil))) pa_nil))))) (pss_one (ps_ret pe_bl)) pss_nil)
      (pss_cons (ps_for PassesOwn.never rfl (pi_range1 (by rfl) T.n_range (pa_cons pe_int pa_nil)) (pg_name (i := 7) sc_law.nd rfl (Or.inl rfl)) (pss_one (ps_if (pt_not (pt_val (pe_callG (ok__law_same T) gd (hr.mono (by decide)) (by rfl) T.d__law_same.g T.d__law_same.F.kp T.d__law_same.b (pa_cons (pe_call (ok__law_error T tb) (hr.mono (by decide)) (by rfl) T.d__law_error.g T.d__law_error.F.kp T.d__law_error.b .nil pass0 (pa_cons (pv 7) (pa_cons (pv 10) (pa_cons pe_non pa_nil)))) (pa_cons (pe_tup (pa_cons (pe_lstN (pa_cons pe_str pa_nil)) (pa_cons (pv 10) pa_nil))) pa_nil))))) (pss_one (ps_ret pe_bl)) pss_nil)))
      (pss_cons (ps_set (i := 12) sc_law.nd rfl (Or.inl rfl) (pe_lstN (pa_cons pe_int pa_nil)))
      (pss_one (ps_for PassesOwn.never rfl (pi_range1 (by rfl) T.n_range (pa_cons pe_int pa_nil)) (pg_name (i := 7) sc_law.nd rfl (Or.inl rfl)) (pss_cons (ps_set (i := 13) sc_law.nd rfl (Or.inl rfl) (pe_ix ix_tup (pe_call (ok__law_error T tb) (hr.mono (by decide)) (by rfl) T.d__law_error.g T.d__law_error.F.kp T.d__law_error.b .nil pass0 (pa_cons (pv 7) (pa_cons (pv 4) (pa_cons (pv 12) pa_nil)))) pe_int (fun _ _ => rfl)))
      (pss_cons (ps_expr (pe_bm PySem.F.plainAttrs_list PySem.F.slot_list_append PySem.F.type_list_append mt_append (pv 12) (pa_cons (pv 7) pa_nil)))
      (pss_one (ps_if (pt_not (pt_val (pe_callG (ok__law_same T) gd (hr.mono (by decide)) (by rfl) T.d__law_same.g T.d__law_same.F.kp T.d__law_same.b (pa_cons (pe_lstN (pa_cons (pv 13) (pa_cons (pe_call (ok__law_error T tb) (hr.mono (by decide)) (by rfl) T.d__law_error.g T.d__law_error.F.kp T.d__law_error.b .nil pass0 (pa_cons (pv 7) (pa_cons (pv 4) (pa_cons (pv 11) pa_nil)))) pa_nil))) (pa_cons (pe_lstN (pa_cons (pv 12) (pa_cons (pe_tup (pa_cons (pe_lstN (pa_cons pe_str pa_nil)) (pa_cons (pv 11) pa_nil))) pa_nil))) pa_nil))))) (pss_one (ps_ret pe_bl)) pss_nil)))))))))))))))))))
      (pss_one (ps_ret pe_bl)))))), ?_⟩
    have ht : TBs [T.P_is_group] H := fun t h => by
      rw [List.mem_singleton] at h
      subst h
      exact ht0
    refine n_seq ?_
    refine ⟨.ref a, rfl, a, ns, rfl, hS, hl, fun p c H1 ex1 hp nf => ?_⟩
    dsimp only
    have t1 := ht.ex ex1
    obtain ⟨xp1, hxp1⟩ := hp.hasP
    -- the typed group
    refine n_seq ?_
    refine s_asgP (ed_tup (K := K) (p := p) (eds_cons (ed_tup (eds_cons (ed_P ed_I ed_I) (eds_cons (ed_P ed_I ed_I) (eds_cons ed_none eds_nil))) (by show 3 ≤ 1000; decide)) (eds_cons (ed_tup (eds_cons (ed_P ed_I ed_I) (eds_cons (ed_P ed_I ed_I) (eds_cons ed_I eds_nil))) (by show 3 ≤ 1000; decide)) (eds_cons (ed_tup (eds_cons (ed_P ed_I ed_I) (eds_cons (ed_P ed_I ed_I) (eds_cons ed_none eds_nil))) (by show 3 ≤ 1000; decide)) eds_nil))) (by show 3 ≤ 1000; decide)) fun dv H2 e2 qd => ?_
    dsimp only
    have qdear : Dq K p H2 dv (gsD dearF) := by
      rw [dear_eq]
      exact qd
    have t2 := t1.ex e2
    have hp2 := hp.ex e2
    have hxp2 := e2 _ _ hxp1
    clear qd hxp1 e2 t1
    refine n_seq ?_
    refine s_skipX (tx_same (K := K) (p := p) (d := .list [.list (intsD [0, 1, 2]), .tuple [.int 159, .int 50]]) (x_lst hxp2 (xs_cons (x_lo (ns := [0, 1, 2]) hxp2 (x_var (i := 2) rfl qdear) dear_ok dear_one) (xs_cons (dear_cost ▸ x_gc (ns := [0, 1, 2]) (x_var (i := 2) rfl qdear) (x_lst hxp2 (xs_cons x_int (xs_cons x_int (xs_cons x_int xs_nil))) (by show 3 ≤ 1000; decide)) dear_ok dear_seq) xs_nil)) (by show 2 ≤ 1000; decide)) (x_lst hxp2 (xs_cons (x_lst hxp2 (xs_cons x_int (xs_cons x_int (xs_cons x_int xs_nil))) (by show 3 ≤ 1000; decide)) (xs_cons (x_tup (xs_cons x_int (xs_cons x_int xs_nil)) (by show 2 ≤ 1000; decide)) xs_nil)) (by show 2 ≤ 1000; decide)) dear_nc) t2 fun H7 X7 t7 => ?_
    have hp7 := hp2.xt X7
    clear X7 qdear hxp2 hp2 t2
    dsimp only
    refine n_seq ?_
    refine ⟨3, rfl, by decide, by decide, ?_⟩
    refine for_range (lo := 0) (n := 3) (fun i σ G => (∃ y3 y4 y5 y6 y7 y8 y9 y10 y11 y12 y13, σ = [some (.ref a), some (.ref p), some dv, y3, y4, y5, y6, y7, y8, y9, y10, y11, y12, y13]) ∧ Pen G p c (60 * i) ∧ TBs [T.P_is_group] G) ⟨⟨none, none, none, none, none, none, none, none, none, none, none, rfl⟩, hp7, t7⟩ ?_ ?_
    · rintro i σ G hi ⟨⟨y3, y4, y5, y6, y7, y8, y9, y10, y11, y12, y13, rfl⟩, hpG, tG⟩
      refine n_name ?_
      dsimp only
      -- a group
      refine n_seq ?_
      obtain ⟨xG, hxG⟩ := hpG.hasP
      refine ⟨_, rfl, p, c, _, rfl, hpG, fun G1 eb1 hp1 => ⟨_, rfl, p, c, 4, _, rfl, hp1, by decide, by decide, by omega, fun r G2 r0 r4 eb2 hp2' => ⟨1, r, rfl, rfl, ?_⟩⟩⟩
      obtain ⟨m, rfl⟩ : ∃ m : Nat, r = (m : Int) := ⟨r.toNat, by omega⟩
      refine ⟨p, c, 1 + m, _, by rw [show ((1 + m : Nat) : Int) = 1 + (m : Int) by omega]; rfl, hp2', by omega, by omega, by omega, fun v F G3 eb3 hp3 qv ok fl => ?_⟩
      have t3' := tG.upd (ys := []) hxG ((eb1.trans eb2).trans eb3)
      clear eb1 eb2 eb3 hp1 hp2' tG hpG hxG
      dsimp only
      have l1 := ok.one
      have l4 := ok.four
      obtain ⟨x3, hx3⟩ := hp3.hasP
      -- its orders
      refine n_seq ?_
      refine ⟨_, rfl, p, v, F, rfl, qv, ok, fun L as G4 e4' nL hL rs => ?_⟩
      have hp4 := hp3.ex e4'
      have hx4 := e4' _ _ hx3
      have t4' := t3'.ex e4'
      have qv4 := Dq.ex e4' _ _ qv
      have nLp : L ≠ p := fun z => by rw [z, hx3] at nL; cases nL
      have ords4 : LstD0 K p (ordsD F) (.ref L) G4 := ⟨L, _, rfl, nLp, hL, rs.dq hx3⟩
      have asl : (as.map V.ref).length = (rowsF F F.length).length := by rw [List.length_map]; exact rs.1
      obtain ⟨r0', hr0'⟩ := rows_ne ok.toFOk
      have rpos := List.length_pos_of_mem hr0'
      have rle : (rowsF F F.length).length ≤ 256 := by
        refine Nat.le_trans (rows_len F F.length) ?_
        exact Nat.le_trans (Nat.pow_le_pow_left l4 _) (Nat.le_trans (Nat.pow_le_pow_right (by decide) l4) (by decide))
      have rsq := rs.dq (K := K) (p := p) hx3
      generalize as.map V.ref = asv at hL asl rsq
      clear rs t3' qv e4' hp3
      dsimp only
      refine n_seq ?_
      refine ⟨_, rfl, _, rfl, p, c, L, asv, _, rfl, hp4, hL, nLp, by omega, by omega, by omega, fun x G5 hx eb5 hp5 => ?_⟩
      obtain ⟨d0, hd0, qd0⟩ := rsq.mem x hx
      obtain ⟨od, hod, rfl⟩ := List.mem_map.mp hd0
      have ofull : Full F 0 od := full_iff.mpr hod
      have qx5 := Dq.exb hx4 eb5 _ _ qd0
      have qv5 := Dq.exb hx4 eb5 _ _ qv4
      have ords5 := ords4.exb hx4 eb5
      have t5' := t4'.upd (ys := []) hx4 eb5
      obtain ⟨x5', hx5⟩ := hp5.hasP
      clear qd0 hx rsq asl hL eb5 hp4 hx4 t4' qv4 ords4 hr0' rpos rle nL hd0
      obtain ⟨oa, rfl, hoa⟩ := ord_v qx5
      obtain ⟨olt, oln⟩ := full_lt ofull
      have osq := seqB_full ofull
      dsimp only
      -- is_group, is_group_order
      refine n_seq ?_
      refine s_skipX (tx_or (tx_same (K := K) (p := p) (x_grp (x_var (i := 4) rfl qv5) ok.gb) x_bool (nbool _)) (tx_same (K := K) (p := p) (x_go (F := F) (x_var (i := 4) rfl qv5) (x_var (i := 6) rfl qx5) ok osq) x_bool (nbool _))) t5' fun G9 X9 t9 => ?_
      have qv9 := Dq.xt X9 _ _ qv5
      have qx9 := Dq.xt X9 _ _ qx5
      have hp9 := hp5.xt X9
      have hx9 := X9.l hx5
      have ords9 := ords5.xt X9
      have ol9 : G9 oa = some (.lst (intsV od)) := X9.l hoa
      clear X9 t5' qv5 qx5 hp5 hx5 ords5 hoa
      dsimp only
      refine n_seq ?_
      have nF : ∀ j, j < 3 → Nc 900000 60 (fine (dueD F od j)) := fun j hj => by
        match j, hj with
        | 0, _ => exact nc_fine (c := 412) (e := 1) (nc_fr (b := 200) (((ok.toFOk.bworth od).neg).mono (by omega)) (by decide) (by decide)) (by decide) (by decide)
        | 1, _ => exact nc_fine (tmG_nc ok.toFOk od) (by omega) (by omega)
        | 2, _ => exact nc_fine (nc_bool true) (by decide) (by decide)
      have hD3 : EvP (tLstN (tCons (tTup (tCons (tC (.int 0)) (tCons (tCall (spOC K) [] E0 (tCons (tVar 4) (tCons (tVar 6) tNil))) tNil))) (tCons (tTup (tCons (tC (.int 1)) (tCons (tCall (spGT K) [] E0 (tCons (tVar 4) (tCons (tVar 6) tNil))) tNil))) (tCons (tTup (tCons (tC (.int 2)) (tCons (tC (.bl true)) tNil))) tNil))))
          [some (.ref a), some (.ref p), some dv, some (.int (0 + (i : Nat))), some v, some (.ref L), some (.ref oa), y7, y8, y9, y10, y11, y12, y13] G9 (LstD K p [.tuple [.int ((0 : Nat) : Int), dueD F od 0], .tuple [.int ((1 : Nat) : Int), dueD F od 1], .tuple [.int ((2 : Nat) : Int), dueD F od 2]]) :=
        el_lst hx9 (eds_cons (ed_tup (eds_cons ed_int (eds_cons (ed_fr (ep_oc ok.toFOk rfl qv9 rfl ol9 olt (by omega))) eds_nil)) (by show 2 ≤ 1000; decide)) (eds_cons (ed_tup (eds_cons ed_int (eds_cons (ed_gt ok.toFOk rfl qv9 rfl ol9 olt (by omega)) eds_nil)) (by show 2 ≤ 1000; decide)) (eds_cons (ed_tup (eds_cons ed_int (eds_cons ed_bool eds_nil)) (by show 2 ≤ 1000; decide)) eds_nil))) (by show 3 ≤ 900; decide)
      refine (show iList K (tLstN _) _ G9 _ from ?_)
      refine hD3 G9 (Ex.refl _) _ fun lv H10 e10 hlv => ?_
      obtain ⟨L3, vs3, rfl, _, _, hL3, qs3⟩ := hlv
      have qv10 := Dq.ex e10 _ _ qv9
      have qx10 := Dq.ex e10 _ _ qx9
      have hx10 := e10 _ _ hx9
      have hp10 := hp9.ex e10
      have ords10 := ords9.ex e10
      have t10 := t9.ex e10
      have vl3 : vs3.length = 3 := qs3.len
      clear hD3 e10 qv9 qx9 hx9 hp9 ords9 ol9 t9
      refine ⟨L3, rfl, ⟨_, SqL.of hL3⟩, ?_⟩
      refine for_list (K := K) (a := L3) (xs := vs3) (fun j σ G => ∃ y7 y8, σ = [some (.ref a), some (.ref p), some dv, some (.int (0 + (i : Nat))), some v, some (.ref L), some (.ref oa), y7, y8, y9, y10, y11, y12, y13] ∧ ExT H10 G ∧ TBs [T.P_is_group] G) ⟨_, _, rfl, ExT.refl _, t10⟩ (fun j σ G _ h => by
        obtain ⟨_, _, _, e, _⟩ := h
        exact SqL.of (e.l hL3)) ?_ ?_
      · rintro j x σ GA hx ⟨y7', y8', rfl, e, tA⟩
        have hxA := e.l hx10
        have qvA := Dq.xt e _ _ qv10
        have qxA := Dq.xt e _ _ qx10
        have j3 : j < 3 := by
          have := (List.getElem?_eq_some_iff.mp hx).1
          omega
        have hj : ([.tuple [.int ((0 : Nat) : Int), dueD F od 0], .tuple [.int ((1 : Nat) : Int), dueD F od 1], .tuple [.int ((2 : Nat) : Int), dueD F od 2]] : List PyData)[j]? = some (.tuple [.int (j : Nat), dueD F od j]) := by
          match j, j3 with
          | 0, _ => rfl
          | 1, _ => rfl
          | 2, _ => rfl
        obtain ⟨x', hx', qx'⟩ := (DqAll.xt e _ _ qs3).get (j := j) hj
        rw [hx] at hx'
        cases hx'
        obtain ⟨d, ws, rfl, hSw, hAw⟩ := qx'.seq
        cases hAw with
        | cons q1 hAw =>
        cases hAw with
        | @cons z _ _ _ q2 hAw =>
        cases hAw
        cases q1
        refine ⟨d, [.int (j : Nat), z], rfl, hSw, rfl, _, _, rfl, _, _, rfl, rfl, ?_⟩
        dsimp only
        refine s_skipX (tx_same (K := K) (p := p) (d := fine (dueD F od j)) (x_errC (F := F) (ns := od) (m := j) hxA rfl (by omega) (x_var (i := 4) rfl qvA) (x_var (i := 6) rfl qxA) ok osq) (x_tup (xs_cons x_str (xs_cons (x_var (i := 8) rfl q2) xs_nil)) (by show 2 ≤ 1000; decide)) (nF j j3)) tA fun GB eB tB' => ?_
        exact ⟨_, _, rfl, e.trans eB, tB'⟩
      rintro σ GA ⟨y7', y8', rfl, e, tA⟩
      have hxA := e.l hx10
      have qvA := Dq.xt e _ _ qv10
      have hpA := hp10.xt e
      have ordsA := ords10.xt e
      clear e qs3 hL3 qx10 qv10 hx10 hp10 ords10 t10 nF
      dsimp only
      -- the least one
      refine n_seq ?_
      refine ⟨_, rfl, p, v, _, rfl, qvA, tA, .inr ⟨F, rfl, ok, fun ll lo GB eB tB' new2 lm2 hll lfull lmost => ?_⟩⟩
      have llp : ll ≠ p := (new2 p _ hxA (fun _ z => nomatch z)).symm
      have qllB : Dq K p GB (.ref ll) (.list (intsD lo)) := .lst llp lm2 hll (ints_dq lo)
      have hll0 : LstD0 K p (intsD lo) (.ref ll) GB := ⟨ll, _, rfl, llp, hll, ints_dq lo⟩
      have qvB := Dq.xt eB _ _ qvA
      have ordsB := ordsA.xt eB
      have hxB := eB.l hxA
      have hpB := hpA.xt eB
      obtain ⟨llt, lln⟩ := full_lt lfull
      clear eB new2 ordsA hxA hpA qvA tA
      dsimp only
      refine n_seq ?_
      refine s_skipX (tx_or (fun H1 e1 t1 Q k => ⟨_, rfl, _, rfl, .list (intsD lo), ordsD F, (hll0.xt e1).dp (hd_ints lo), (ordsB.xt e1).dp (hd_rows _), shp1 lo, shp2 F, _, rfl, by rw [any_ord lfull]; exact k H1 (ExT.refl _) t1⟩) (tx_same (K := K) (p := p) (x_go (F := F) (x_var (i := 4) rfl qvB) (x_var (i := 9) rfl qllB) ok (seqB_full lfull)) x_bool (nbool _))) tB' fun GD XD tD => ?_
      have qvD := Dq.xt XD _ _ qvB
      have hllD := XD.l hll
      have hxD := XD.l hxB
      have hpD := hpB.xt XD
      clear XD hll0 ordsB qllB qvB hxB hpB tB' hll
      dsimp only
      refine n_seq ?_
      have lst : ∀ {σ : L2.St}, σ[4]? = some (some v) → EvP (tCall (spLst K) [] E0 (tCons (tVar 4) tNil)) σ GD (Fr K 200 (-worthF F lo)) := fun h4 H1 e Q k => ⟨_, h4, p, v, F, rfl, Dq.ex e _ _ qvD, ok, fun x q H' e' f hl hm => k x H' e' (by
        have hq : q = -worthF F lo := by
          obtain ⟨l', hl', rfl⟩ := hl
          have h1 := hm lo lfull
          have h2 := lmost l' hl'
          grind
        rw [hq] at f
        exact f)⟩
      refine s_skip (et_neF (ep_oc (i := 4) (j := 9) ok.toFOk rfl qvD rfl hllD llt (by omega)) (lst rfl) rfl) fun GE eE => ?_
      have qvE := Dq.ex eE _ _ qvD
      have hpE := hpD.ex eE
      have hxE := eE _ _ hxD
      have tE := tD.ex eE
      clear lst eE qvD hllD hxD hpD tD
      dsimp only
      -- what is none
      refine n_seq ?_
      refine ⟨_, rfl, _, rfl, p, c, v, F, _, rfl, hpE, by omega, qvE, ok, fun x10 d10 G11 eb11 hp11 q10 n10 c10 => ⟨_, rfl, _, rfl, p, c, v, F, _, rfl, hp11, by omega, Dq.exb hxE eb11 _ _ qvE, ok, fun x11 d11 G12 eb12 hp12 q11 n11 c11 => ⟨_, _, rfl, ?_⟩⟩⟩
      obtain ⟨x11', hx11⟩ := hp11.hasP
      have q10' := Dq.exb hx11 eb12 _ _ q10
      have qv12 := Dq.exb hx11 eb12 _ _ (Dq.exb hxE eb11 _ _ qvE)
      have t12 := (tE.upd (ys := []) hxE eb11).upd (ys := []) hx11 eb12
      obtain ⟨x12, hx12⟩ := hp12.hasP
      clear q10 qvE tE eb11 eb12 hxE hx11 hp11 hpE
      dsimp only
      refine n_seq ?_
      have nBB : Nc 900000 60 (.list [.bool false, .bool false]) := (nc_lst (nca_cons (nc_bool false) (nca_cons (nc_bool false) nca_nil))).mono (by decide) (by decide)
      refine s_skipX (tx_same (K := K) (p := p) (d := .list [.bool false, .bool false]) (x_lst hx12 (xs_cons (x_grp (x_var (i := 10) rfl q10') n10) (xs_cons (x_go (F := F) (x_var (i := 4) rfl qv12) (x_var (i := 11) rfl q11) ok n11) xs_nil)) (by show 2 ≤ 1000; decide)) (x_lst hx12 (xs_cons x_bool (xs_cons x_bool xs_nil)) (by show 2 ≤ 1000; decide)) nBB) t12 fun G13 X13 t13 => ?_
      have q10a := Dq.xt X13 _ _ q10'
      have q11a := Dq.xt X13 _ _ q11
      have qv13 := Dq.xt X13 _ _ qv12
      have hx13 := X13.l hx12
      have hp13 := hp12.xt X13
      clear X13 q10' q11 qv12 hx12 hp12 t12
      dsimp only
      refine n_seq ?_
      refine ⟨4, rfl, by decide, by decide, ?_⟩
      refine for_range (lo := 0) (n := 4) (fun j σ G => ∃ y7, σ = [some (.ref a), some (.ref p), some dv, some (.int (0 + (i : Nat))), some v, some (.ref L), some (.ref oa), y7, y8', some (.ref ll), some x10, some x11, y12, y13] ∧ ExT G13 G ∧ TBs [T.P_is_group] G) ⟨_, rfl, ExT.refl _, t13⟩ ?_ ?_
      · rintro j σ GF hj ⟨y7'', rfl, e, tF⟩
        refine n_name ?_
        dsimp only
        have q10F := Dq.xt e _ _ q10a
        refine s_skipX (tx_same (K := K) (p := p) (d := wrong "BadGroup" d10) (x_errA (e := .none) (e.l hx13) rfl (x_var (i := 10) rfl q10F) x_none n10) (x_tup (xs_cons (x_lst (e.l hx13) (xs_cons x_str xs_nil) (by show 1 ≤ 1000; decide)) (xs_cons (x_var (i := 10) rfl q10F) xs_nil)) (by show 2 ≤ 1000; decide)) (nc_wrong (by decide +kernel) c10)) tF fun GH eH tH => ?_
        exact ⟨_, rfl, e.trans eH, tH⟩
      rintro σ GF ⟨y7'', rfl, e, tF⟩
      have q11F := Dq.xt e _ _ q11a
      have qvF := Dq.xt e _ _ qv13
      have hxF := e.l hx13
      have hpF := hp13.xt e
      clear e q10a q11a qv13 hx13 hp13 t13
      dsimp only
      -- an order that grows
      refine n_seq ?_
      refine ⟨by show 1 ≤ sizeLine; decide, fun W fW mW => ?_⟩
      have nWp : W ≠ p := (ne_of_none hxF fW).symm
      have xW := Ex.new (o := .lst [.int 9]) fW
      have tW := tF.ex xW
      dsimp only
      refine ⟨2, rfl, by decide, by decide, ?_⟩
      refine for_range (lo := 0) (n := 2) (fun j σ G => ∃ y7 y13, σ = [some (.ref a), some (.ref p), some dv, some (.int (0 + (i : Nat))), some v, some (.ref L), some (.ref oa), y7, y8', some (.ref ll), some x10, some x11, some (.ref W), y13] ∧ ExT GF G ∧ TBs [T.P_is_group] G ∧ G W = some (.lst (intsV (9 :: List.range j)))) ⟨_, _, rfl, Ex.t xW, tW, upd_same⟩ ?_ ?_
      · rintro j σ GI hj ⟨y7'', y13', rfl, e, tI, hW⟩
        rw [show (0 : Int) + ((j : Nat) : Int) = ((j : Nat) : Int) by omega]
        refine n_name ?_
        dsimp only
        have hxI := e.l hxF
        have qW : Dq K p GI (.ref W) (.list (intsD (9 :: List.range j))) := .lst nWp mW hW (ints_dq _)
        have nine : ∀ k, seqB F (.list (intsD (9 :: k))) = false := fun k => bad_in (d := .int ((9 : Nat) : Int)) (by show _ ∈ _ :: _; simp) (by
          show (true && (decide ((0 : Int) ≤ ((9 : Nat) : Int)) && decide (((9 : Nat) : Int) < (F.length : Int)))) = false
          rw [decide_eq_false (p := ((9 : Nat) : Int) < (F.length : Int)) (by omega), Bool.and_false, Bool.and_false])
        have j01 : ((j : Nat) : Int) = 0 ∨ ((j : Nat) : Int) = 1 := by omega
        refine n_seq ?_
        refine ⟨_, rfl, _, rfl, _, rfl, p, (j : Nat), v, .ref W, _, _, _, rfl, hxI, Dq.xt e _ _ qvF, qW, tI, .inr ⟨F, rfl, ok, .inl ⟨nine _, j01, fun y GJ eJ tJ wr => ?_⟩⟩⟩
        obtain ⟨tt, tl, rfl, hSt, _⟩ := wr
        refine ⟨tt, _, 1, .ref W, rfl, rfl, hSt, rfl, ?_⟩
        dsimp only
        have hWJ := eJ.l hW
        have X1 := e.trans eJ
        refine n_seq ?_
        refine s_app hWJ (ev_var rfl) (ev_var rfl) (by rw [intsV_len, List.length_cons, List.length_range]; omega) fun GM eM => ?_
        have hWM := eM _ _ hWJ
        have X2 : ExT GF (upd GM W (.lst (intsV (9 :: List.range j) ++ [.int (j : Nat)]))) := fun b o n h => by
          rw [upd_ne (ne_of_none h fW)]
          exact eM _ _ (X1 b o n h)
        have hWN : (upd GM W (.lst (intsV (9 :: List.range j) ++ [.int (j : Nat)]))) W = some (.lst (intsV (9 :: List.range (j + 1)))) := by
          rw [upd_same, List.range_succ]
          unfold intsV
          simp
        have tN : TBs [T.P_is_group] (upd GM W (.lst (intsV (9 :: List.range j) ++ [.int (j : Nat)]))) := TBs.upd (ys := []) (tJ.ex eM) hWM fun b o hb h => by
          rw [upd_ne hb]
          exact h
        generalize upd GM W (.lst (intsV (9 :: List.range j) ++ [.int (j : Nat)])) = GN at X2 hWN tN
        have qWN : Dq K p GN (.ref W) (.list (intsD (9 :: List.range (j + 1)))) := .lst nWp mW hWN (ints_dq _)
        have qvN := Dq.xt X2 _ _ qvF
        have q11N := Dq.xt X2 _ _ q11F
        have hxN := X2.l hxF
        clear X1 eM hWM hWJ tJ eJ hSt qW tI hW e hxI
        have nW : Nc 900000 60 (.list [.list (intsD (9 :: List.range (j + 1))), wrong "BadGroupOrder" d11]) := by
          have n1 : Nc 9000 8 (.list (intsD (9 :: List.range (j + 1)))) := nc_ords (fun n hn => by
            rcases List.mem_cons.mp hn with rfl | hn
            · decide
            · have := List.mem_range.mp hn
              omega) (by rw [List.length_cons, List.length_range]; omega)
          have n2 : Nc 30000 20 (wrong "BadGroupOrder" d11) := (nc_tup (nca_cons ((nc_lst (nca_cons (nc_str (x := "BadGroupOrder") (c := 20) (by decide +kernel)) (nca_nil (e := 0)))).mono (Nat.le_refl _) (by decide : _ ≤ 12)) (nca_cons c11 nca_nil))).mono (by decide) (by decide)
          exact (nc_lst (nca_cons (n1.mono (Nat.le_refl _) (by decide : 8 ≤ 20)) (nca_cons n2 nca_nil))).mono (by decide) (by decide)
        refine s_skipX (tx_same (K := K) (p := p) (d := .list [.list (intsD (9 :: List.range (j + 1))), wrong "BadGroupOrder" d11]) (x_lst hxN (xs_cons (x_var (i := 13) rfl qWN) (xs_cons (x_errB (F := F) hxN rfl (x_var (i := 4) rfl qvN) (x_var (i := 11) rfl q11N) ok n11 j01) xs_nil)) (by show 2 ≤ 1000; decide)) (x_lst hxN (xs_cons (x_var (i := 12) rfl qWN) (xs_cons (x_tup (xs_cons (x_lst hxN (xs_cons x_str xs_nil) (by show 1 ≤ 1000; decide)) (xs_cons (x_var (i := 11) rfl q11N) xs_nil)) (by show 2 ≤ 1000; decide)) xs_nil)) (by show 2 ≤ 1000; decide)) nW) tN fun GP eP tP => ?_
        exact ⟨_, _, rfl, X2.trans eP, tP, eP.l hWN⟩
      · rintro σ GI ⟨y7'', y13', rfl, e, tI, hW⟩
        exact ⟨⟨_, _, _, _, _, _, _, _, _, _, _, rfl⟩, (hpF.xt e).mono (by omega), tI⟩
    · rintro σ G _
      exact k G
end
def CodeK (oc : Value) (vs : Array Value) (c P : Addr) : Prop := ∃ (file : Str) (tf : Tok) (flags : Int) (tg : Tok) (inF : Bool) (text : Int) (tt : Tok), oc = .type "code" ∧ vs.getD 11 .none = .ref P ∧ vs.getD 18 .none = .str file tf ∧
  vs.getD 7 .none = .int flags tg ∧ vs.getD 9 .none = .bool inF ∧ vs.getD 10 .none = .int text tt ∧ c ≠ P
theorem all_mk {l : PySem.W.OpenLaw} {w : World} {K : PySem.W.Frag} {h : Heap} {mg : Str → Option Value} {fa : Addr} (X : K.In h) (G : h.Ns mainGlobals mg) (hfa : mg "law" = some (.ref fa)) (hE : TabE K "is_group" mg h)
    {od1 an1 : Option Addr} {sl1 : Array (Option Value)} {oc1 kV1 dc1 pm1 cd1 ct1 : Value} {f1 : Addr}
    {od2 an2 : Option Addr} {sl2 : Array (Option Value)} {oc2 kV2 dc2 pm2 cd2 ct2 : Value} {f2 : Addr}
    {od3 an3 : Option Addr} {sl3 : Array (Option Value)} {oc3 kV3 dc3 pm3 cd3 ct3 : Value} {f3 : Addr}
    {od4 an4 : Option Addr} {sl4 : Array (Option Value)} {oc4 kV4 dc4 pm4 cd4 ct4 : Value} {f4 : Addr}
    {od5 an5 : Option Addr} {sl5 : Array (Option Value)} {oc5 kV5 dc5 pm5 cd5 ct5 : Value} {f5 : Addr}
    {od6 an6 : Option Addr} {sl6 : Array (Option Value)} {oc6 kV6 dc6 pm6 cd6 ct6 : Value} {f6 : Addr}
    {od7 an7 : Option Addr} {sl7 : Array (Option Value)} {oc7 kV7 dc7 pm7 cd7 ct7 : Value} {f7 : Addr}
    {od8 an8 : Option Addr} {sl8 : Array (Option Value)} {oc8 kV8 dc8 pm8 cd8 ct8 : Value} {f8 : Addr}
    {od9 an9 : Option Addr} {sl9 : Array (Option Value)} {oc9 kV9 dc9 pm9 cd9 ct9 : Value} {f9 : Addr}
    {od10 an10 : Option Addr} {sl10 : Array (Option Value)} {oc10 kV10 dc10 pm10 cd10 ct10 : Value} {f10 : Addr}
    {od11 an11 : Option Addr} {sl11 : Array (Option Value)} {oc11 kV11 dc11 pm11 cd11 ct11 : Value} {f11 : Addr}
    {od12 an12 : Option Addr} {sl12 : Array (Option Value)} {oc12 kV12 dc12 pm12 cd12 ct12 : Value} {f12 : Addr}
    {od13 an13 : Option Addr} {sl13 : Array (Option Value)} {oc13 kV13 dc13 pm13 cd13 ct13 : Value} {f13 : Addr}
    {od14 an14 : Option Addr} {sl14 : Array (Option Value)} {oc14 kV14 dc14 pm14 cd14 ct14 : Value} {f14 : Addr}
    {od15 an15 : Option Addr} {sl15 : Array (Option Value)} {oc15 kV15 dc15 pm15 cd15 ct15 : Value} {f15 : Addr}
    {od16 an16 : Option Addr} {sl16 : Array (Option Value)} {oc16 kV16 dc16 pm16 cd16 ct16 : Value} {f16 : Addr}
    {od17 an17 : Option Addr} {sl17 : Array (Option Value)} {oc17 kV17 dc17 pm17 cd17 ct17 : Value} {f17 : Addr}
    {od18 an18 : Option Addr} {sl18 : Array (Option Value)} {oc18 kV18 dc18 pm18 cd18 ct18 : Value} {f18 : Addr}
    {od19 an19 : Option Addr} {sl19 : Array (Option Value)} {oc19 kV19 dc19 pm19 cd19 ct19 : Value} {f19 : Addr}
    {od20 an20 : Option Addr} {sl20 : Array (Option Value)} {oc20 kV20 dc20 pm20 cd20 ct20 : Value} {f20 : Addr}
    {od21 an21 : Option Addr} {sl21 : Array (Option Value)} {oc21 kV21 dc21 pm21 cd21 ct21 : Value} {f21 : Addr}
    {od22 an22 : Option Addr} {sl22 : Array (Option Value)} {oc22 kV22 dc22 pm22 cd22 ct22 : Value} {f22 : Addr}
    {od23 an23 : Option Addr} {sl23 : Array (Option Value)} {oc23 kV23 dc23 pm23 cd23 ct23 : Value} {f23 : Addr}
    {od24 an24 : Option Addr} {sl24 : Array (Option Value)} {oc24 kV24 dc24 pm24 cd24 ct24 : Value} {f24 : Addr}
    {od25 an25 : Option Addr} {sl25 : Array (Option Value)} {oc25 kV25 dc25 pm25 cd25 ct25 : Value} {f25 : Addr}
    {od26 an26 : Option Addr} {sl26 : Array (Option Value)} {oc26 kV26 dc26 pm26 cd26 ct26 : Value} {f26 : Addr}
    {od27 an27 : Option Addr} {sl27 : Array (Option Value)} {oc27 kV27 dc27 pm27 cd27 ct27 : Value} {f27 : Addr}
    {od28 an28 : Option Addr} {sl28 : Array (Option Value)} {oc28 kV28 dc28 pm28 cd28 ct28 : Value} {f28 : Addr}
    {od29 an29 : Option Addr} {sl29 : Array (Option Value)} {oc29 kV29 dc29 pm29 cd29 ct29 : Value} {f29 : Addr}
    {od30 an30 : Option Addr} {sl30 : Array (Option Value)} {oc30 kV30 dc30 pm30 cd30 ct30 : Value} {f30 : Addr}
    {od31 an31 : Option Addr} {sl31 : Array (Option Value)} {oc31 kV31 dc31 pm31 cd31 ct31 : Value} {f31 : Addr}
    {od32 an32 : Option Addr} {sl32 : Array (Option Value)} {oc32 kV32 dc32 pm32 cd32 ct32 : Value} {f32 : Addr}
    {od33 an33 : Option Addr} {sl33 : Array (Option Value)} {oc33 kV33 dc33 pm33 cd33 ct33 : Value} {f33 : Addr}
    {od34 an34 : Option Addr} {sl34 : Array (Option Value)} {oc34 kV34 dc34 pm34 cd34 ct34 : Value} {f34 : Addr}
    {od35 an35 : Option Addr} {sl35 : Array (Option Value)} {oc35 kV35 dc35 pm35 cd35 ct35 : Value} {f35 : Addr}
    {od36 an36 : Option Addr} {sl36 : Array (Option Value)} {oc36 kV36 dc36 pm36 cd36 ct36 : Value} {f36 : Addr}
    {od37 an37 : Option Addr} {sl37 : Array (Option Value)} {oc37 kV37 dc37 pm37 cd37 ct37 : Value} {f37 : Addr}
    {od38 an38 : Option Addr} {sl38 : Array (Option Value)} {oc38 kV38 dc38 pm38 cd38 ct38 : Value} {f38 : Addr}
    {od39 an39 : Option Addr} {sl39 : Array (Option Value)} {oc39 kV39 dc39 pm39 cd39 ct39 : Value} {f39 : Addr}
    {od40 an40 : Option Addr} {sl40 : Array (Option Value)} {oc40 kV40 dc40 pm40 cd40 ct40 : Value} {f40 : Addr}
    {od41 an41 : Option Addr} {sl41 : Array (Option Value)} {oc41 kV41 dc41 pm41 cd41 ct41 : Value} {f41 : Addr}
    {od42 an42 : Option Addr} {sl42 : Array (Option Value)} {oc42 kV42 dc42 pm42 cd42 ct42 : Value} {f42 : Addr}
    {od43 an43 : Option Addr} {sl43 : Array (Option Value)} {oc43 kV43 dc43 pm43 cd43 ct43 : Value} {f43 : Addr}
    {od44 an44 : Option Addr} {sl44 : Array (Option Value)} {oc44 kV44 dc44 pm44 cd44 ct44 : Value} {f44 : Addr}
    {od45 an45 : Option Addr} {sl45 : Array (Option Value)} {oc45 kV45 dc45 pm45 cd45 ct45 : Value} {f45 : Addr}
    {od46 an46 : Option Addr} {sl46 : Array (Option Value)} {oc46 kV46 dc46 pm46 cd46 ct46 : Value} {f46 : Addr}
    {od47 an47 : Option Addr} {sl47 : Array (Option Value)} {oc47 kV47 dc47 pm47 cd47 ct47 : Value} {f47 : Addr}
    {od48 an48 : Option Addr} {sl48 : Array (Option Value)} {oc48 kV48 dc48 pm48 cd48 ct48 : Value} {f48 : Addr}
    {aN : Addr} {ddN : Option Addr} {tN : Tok} {nN : Nat} {slN : Array (Option Value)}
    {aZ : Addr} {ddZ : Option Addr} {tZ uZ : Tok} {nZ : Nat} {slZ : Array (Option Value)}
    {aO : Addr} {ddO : Option Addr} {tO uO : Tok} {nO : Nat} {slO : Array (Option Value)}
    {tMOST_TESTS : Tok}
    {CM_ fM_ : Addr} {odM_ anM_ : Option Addr} {slM_ : Array (Option Value)} {ocM_ kVM_ dcM_ pmM_ cdM_ ctM_ : Value}
    {C_BadGroup f_BadGroup : Addr} {od_BadGroup an_BadGroup : Option Addr} {sl_BadGroup : Array (Option Value)} {oc_BadGroup kV_BadGroup dc_BadGroup pm_BadGroup cd_BadGroup ct_BadGroup : Value}
    {C_BadGroupOrder f_BadGroupOrder : Addr} {od_BadGroupOrder an_BadGroupOrder : Option Addr} {sl_BadGroupOrder : Array (Option Value)} {oc_BadGroupOrder kV_BadGroupOrder dc_BadGroupOrder pm_BadGroupOrder cd_BadGroupOrder ct_BadGroupOrder : Value}
    {cA PA : Addr} {ocA : Value} {ddA : Option Addr} {vsA : Array Value} {slA : Array (Option Value)}
    (a1 : PySem.W.nsIn K mainGlobals "is_whole" = some (some (.ref f1))) (l1 : K.lookup f1 = some ⟨oc1, od1, .func (PySem.W.fnOf "is_whole" "is_whole" (defArgs s_is_whole) (defBody s_is_whole) (defScope s_is_whole) .none kV1 dc1 pm1 an1 cd1 ct1), sl1⟩) (c1 : PySem.W.codeIn K cd1 "is_whole" = true) (k1 : PySem.W.keepIn K (.ref f1) = true)
    (a2 : PySem.W.nsIn K mainGlobals "is_number_below" = some (some (.ref f2))) (l2 : K.lookup f2 = some ⟨oc2, od2, .func (PySem.W.fnOf "is_number_below" "is_number_below" (defArgs s_is_number_below) (defBody s_is_number_below) (defScope s_is_number_below) .none kV2 dc2 pm2 an2 cd2 ct2), sl2⟩) (c2 : PySem.W.codeIn K cd2 "is_number_below" = true) (k2 : PySem.W.keepIn K (.ref f2) = true)
    (a3 : PySem.W.nsIn K mainGlobals "is_fraction" = some (some (.ref f3))) (l3 : K.lookup f3 = some ⟨oc3, od3, .func (PySem.W.fnOf "is_fraction" "is_fraction" (defArgs s_is_fraction) (defBody s_is_fraction) (defScope s_is_fraction) .none kV3 dc3 pm3 an3 cd3 ct3), sl3⟩) (c3 : PySem.W.codeIn K cd3 "is_fraction" = true) (k3 : PySem.W.keepIn K (.ref f3) = true)
    (a4 : PySem.W.nsIn K mainGlobals "is_from_zero" = some (some (.ref f4))) (l4 : K.lookup f4 = some ⟨oc4, od4, .func (PySem.W.fnOf "is_from_zero" "is_from_zero" (defArgs s_is_from_zero) (defBody s_is_from_zero) (defScope s_is_from_zero) .none kV4 dc4 pm4 an4 cd4 ct4), sl4⟩) (c4 : PySem.W.codeIn K cd4 "is_from_zero" = true) (k4 : PySem.W.keepIn K (.ref f4) = true)
    (a5 : PySem.W.nsIn K mainGlobals "is_proper" = some (some (.ref f5))) (l5 : K.lookup f5 = some ⟨oc5, od5, .func (PySem.W.fnOf "is_proper" "is_proper" (defArgs s_is_proper) (defBody s_is_proper) (defScope s_is_proper) .none kV5 dc5 pm5 an5 cd5 ct5), sl5⟩) (c5 : PySem.W.codeIn K cd5 "is_proper" = true) (k5 : PySem.W.keepIn K (.ref f5) = true)
    (a6 : PySem.W.nsIn K mainGlobals "lowest" = some (some (.ref f6))) (l6 : K.lookup f6 = some ⟨oc6, od6, .func (PySem.W.fnOf "lowest" "lowest" (defArgs s_lowest) (defBody s_lowest) (defScope s_lowest) .none kV6 dc6 pm6 an6 cd6 ct6), sl6⟩) (c6 : PySem.W.codeIn K cd6 "lowest" = true) (k6 : PySem.W.keepIn K (.ref f6) = true)
    (a7 : PySem.W.nsIn K mainGlobals "add" = some (some (.ref f7))) (l7 : K.lookup f7 = some ⟨oc7, od7, .func (PySem.W.fnOf "add" "add" (defArgs s_add) (defBody s_add) (defScope s_add) .none kV7 dc7 pm7 an7 cd7 ct7), sl7⟩) (c7 : PySem.W.codeIn K cd7 "add" = true) (k7 : PySem.W.keepIn K (.ref f7) = true)
    (a8 : PySem.W.nsIn K mainGlobals "subtract" = some (some (.ref f8))) (l8 : K.lookup f8 = some ⟨oc8, od8, .func (PySem.W.fnOf "subtract" "subtract" (defArgs s_subtract) (defBody s_subtract) (defScope s_subtract) .none kV8 dc8 pm8 an8 cd8 ct8), sl8⟩) (c8 : PySem.W.codeIn K cd8 "subtract" = true) (k8 : PySem.W.keepIn K (.ref f8) = true)
    (a9 : PySem.W.nsIn K mainGlobals "multiply" = some (some (.ref f9))) (l9 : K.lookup f9 = some ⟨oc9, od9, .func (PySem.W.fnOf "multiply" "multiply" (defArgs s_multiply) (defBody s_multiply) (defScope s_multiply) .none kV9 dc9 pm9 an9 cd9 ct9), sl9⟩) (c9 : PySem.W.codeIn K cd9 "multiply" = true) (k9 : PySem.W.keepIn K (.ref f9) = true)
    (a10 : PySem.W.nsIn K mainGlobals "negative" = some (some (.ref f10))) (l10 : K.lookup f10 = some ⟨oc10, od10, .func (PySem.W.fnOf "negative" "negative" (defArgs s_negative) (defBody s_negative) (defScope s_negative) .none kV10 dc10 pm10 an10 cd10 ct10), sl10⟩) (c10 : PySem.W.codeIn K cd10 "negative" = true) (k10 : PySem.W.keepIn K (.ref f10) = true)
    (a11 : PySem.W.nsIn K mainGlobals "is_sequence" = some (some (.ref f11))) (l11 : K.lookup f11 = some ⟨oc11, od11, .func (PySem.W.fnOf "is_sequence" "is_sequence" (defArgs s_is_sequence) (defBody s_is_sequence) (defScope s_is_sequence) .none kV11 dc11 pm11 an11 cd11 ct11), sl11⟩) (c11 : PySem.W.codeIn K cd11 "is_sequence" = true) (k11 : PySem.W.keepIn K (.ref f11) = true)
    (a12 : PySem.W.nsIn K mainGlobals "run_of" = some (some (.ref f12))) (l12 : K.lookup f12 = some ⟨oc12, od12, .func (PySem.W.fnOf "run_of" "run_of" (defArgs s_run_of) (defBody s_run_of) (defScope s_run_of) .none kV12 dc12 pm12 an12 cd12 ct12), sl12⟩) (c12 : PySem.W.codeIn K cd12 "run_of" = true) (k12 : PySem.W.keepIn K (.ref f12) = true)
    (a13 : PySem.W.nsIn K mainGlobals "has_bit" = some (some (.ref f13))) (l13 : K.lookup f13 = some ⟨oc13, od13, .func (PySem.W.fnOf "has_bit" "has_bit" (defArgs s_has_bit) (defBody s_has_bit) (defScope s_has_bit) .none kV13 dc13 pm13 an13 cd13 ct13), sl13⟩) (c13 : PySem.W.codeIn K cd13 "has_bit" = true) (k13 : PySem.W.keepIn K (.ref f13) = true)
    (a14 : PySem.W.nsIn K mainGlobals "open_tasks" = some (some (.ref f14))) (l14 : K.lookup f14 = some ⟨oc14, od14, .func (PySem.W.fnOf "open_tasks" "open_tasks" (defArgs s_open_tasks) (defBody s_open_tasks) (defScope s_open_tasks) .none kV14 dc14 pm14 an14 cd14 ct14), sl14⟩) (c14 : PySem.W.codeIn K cd14 "open_tasks" = true) (k14 : PySem.W.keepIn K (.ref f14) = true)
    (a15 : PySem.W.nsIn K mainGlobals "best_by_sets" = some (some (.ref f15))) (l15 : K.lookup f15 = some ⟨oc15, od15, .func (PySem.W.fnOf "best_by_sets" "best_by_sets" (defArgs s_best_by_sets) (defBody s_best_by_sets) (defScope s_best_by_sets) .none kV15 dc15 pm15 an15 cd15 ct15), sl15⟩) (c15 : PySem.W.codeIn K cd15 "best_by_sets" = true) (k15 : PySem.W.keepIn K (.ref f15) = true)
    (a16 : PySem.W.nsIn K mainGlobals "best_run" = some (some (.ref f16))) (l16 : K.lookup f16 = some ⟨oc16, od16, .func (PySem.W.fnOf "best_run" "best_run" (defArgs s_best_run) (defBody s_best_run) (defScope s_best_run) .none kV16 dc16 pm16 an16 cd16 ct16), sl16⟩) (c16 : PySem.W.codeIn K cd16 "best_run" = true) (k16 : PySem.W.keepIn K (.ref f16) = true)
    (a17 : PySem.W.nsIn K mainGlobals "is_test" = some (some (.ref f17))) (l17 : K.lookup f17 = some ⟨oc17, od17, .func (PySem.W.fnOf "is_test" "is_test" (defArgs s_is_test) (defBody s_is_test) (defScope s_is_test) .none kV17 dc17 pm17 an17 cd17 ct17), sl17⟩) (c17 : PySem.W.codeIn K cd17 "is_test" = true) (k17 : PySem.W.keepIn K (.ref f17) = true)
    (a18 : PySem.W.nsIn K mainGlobals "is_group" = some (some (.ref f18))) (l18 : K.lookup f18 = some ⟨oc18, od18, .func (PySem.W.fnOf "is_group" "is_group" (defArgs s_is_group) (defBody s_is_group) (defScope s_is_group) .none kV18 dc18 pm18 an18 cd18 ct18), sl18⟩) (c18 : PySem.W.codeIn K cd18 "is_group" = true) (k18 : PySem.W.keepIn K (.ref f18) = true)
    (a19 : PySem.W.nsIn K mainGlobals "require_group" = some (some (.ref f19))) (l19 : K.lookup f19 = some ⟨oc19, od19, .func (PySem.W.fnOf "require_group" "require_group" (defArgs s_require_group) (defBody s_require_group) (defScope s_require_group) .none kV19 dc19 pm19 an19 cd19 ct19), sl19⟩) (c19 : PySem.W.codeIn K cd19 "require_group" = true) (k19 : PySem.W.keepIn K (.ref f19) = true)
    (a20 : PySem.W.nsIn K mainGlobals "as_forest" = some (some (.ref f20))) (l20 : K.lookup f20 = some ⟨oc20, od20, .func (PySem.W.fnOf "as_forest" "as_forest" (defArgs s_as_forest) (defBody s_as_forest) (defScope s_as_forest) .none kV20 dc20 pm20 an20 cd20 ct20), sl20⟩) (c20 : PySem.W.codeIn K cd20 "as_forest" = true) (k20 : PySem.W.keepIn K (.ref f20) = true)
    (a21 : PySem.W.nsIn K mainGlobals "term_of_group" = some (some (.ref f21))) (l21 : K.lookup f21 = some ⟨oc21, od21, .func (PySem.W.fnOf "term_of_group" "term_of_group" (defArgs s_term_of_group) (defBody s_term_of_group) (defScope s_term_of_group) .none kV21 dc21 pm21 an21 cd21 ct21), sl21⟩) (c21 : PySem.W.codeIn K cd21 "term_of_group" = true) (k21 : PySem.W.keepIn K (.ref f21) = true)
    (a22 : PySem.W.nsIn K mainGlobals "is_group_order" = some (some (.ref f22))) (l22 : K.lookup f22 = some ⟨oc22, od22, .func (PySem.W.fnOf "is_group_order" "is_group_order" (defArgs s_is_group_order) (defBody s_is_group_order) (defScope s_is_group_order) .none kV22 dc22 pm22 an22 cd22 ct22), sl22⟩) (c22 : PySem.W.codeIn K cd22 "is_group_order" = true) (k22 : PySem.W.keepIn K (.ref f22) = true)
    (a23 : PySem.W.nsIn K mainGlobals "require_group_and_order" = some (some (.ref f23))) (l23 : K.lookup f23 = some ⟨oc23, od23, .func (PySem.W.fnOf "require_group_and_order" "require_group_and_order" (defArgs s_require_group_and_order) (defBody s_require_group_and_order) (defScope s_require_group_and_order) .none kV23 dc23 pm23 an23 cd23 ct23), sl23⟩) (c23 : PySem.W.codeIn K cd23 "require_group_and_order" = true) (k23 : PySem.W.keepIn K (.ref f23) = true)
    (a24 : PySem.W.nsIn K mainGlobals "group_cost" = some (some (.ref f24))) (l24 : K.lookup f24 = some ⟨oc24, od24, .func (PySem.W.fnOf "group_cost" "group_cost" (defArgs s_group_cost) (defBody s_group_cost) (defScope s_group_cost) .none kV24 dc24 pm24 an24 cd24 ct24), sl24⟩) (c24 : PySem.W.codeIn K cd24 "group_cost" = true) (k24 : PySem.W.keepIn K (.ref f24) = true)
    (a25 : PySem.W.nsIn K mainGlobals "group_term" = some (some (.ref f25))) (l25 : K.lookup f25 = some ⟨oc25, od25, .func (PySem.W.fnOf "group_term" "group_term" (defArgs s_group_term) (defBody s_group_term) (defScope s_group_term) .none kV25 dc25 pm25 an25 cd25 ct25), sl25⟩) (c25 : PySem.W.codeIn K cd25 "group_term" = true) (k25 : PySem.W.keepIn K (.ref f25) = true)
    (a26 : PySem.W.nsIn K mainGlobals "least_order" = some (some (.ref f26))) (l26 : K.lookup f26 = some ⟨oc26, od26, .func (PySem.W.fnOf "least_order" "least_order" (defArgs s_least_order) (defBody s_least_order) (defScope s_least_order) .none kV26 dc26 pm26 an26 cd26 ct26), sl26⟩) (c26 : PySem.W.codeIn K cd26 "least_order" = true) (k26 : PySem.W.keepIn K (.ref f26) = true)
    (a27 : PySem.W.nsIn K mainGlobals "_law_spread" = some (some (.ref f27))) (l27 : K.lookup f27 = some ⟨oc27, od27, .func (PySem.W.fnOf "_law_spread" "_law_spread" (defArgs s__law_spread) (defBody s__law_spread) (defScope s__law_spread) .none kV27 dc27 pm27 an27 cd27 ct27), sl27⟩) (c27 : PySem.W.codeIn K cd27 "_law_spread" = true) (k27 : PySem.W.keepIn K (.ref f27) = true)
    (a28 : PySem.W.nsIn K mainGlobals "_law_open" = some (some (.ref f28))) (l28 : K.lookup f28 = some ⟨oc28, od28, .func (PySem.W.fnOf "_law_open" "_law_open" (defArgs s__law_open) (defBody s__law_open) (defScope s__law_open) .none kV28 dc28 pm28 an28 cd28 ct28), sl28⟩) (c28 : PySem.W.codeIn K cd28 "_law_open" = true) (k28 : PySem.W.keepIn K (.ref f28) = true)
    (a29 : PySem.W.nsIn K mainGlobals "_law_take" = some (some (.ref f29))) (l29 : K.lookup f29 = some ⟨oc29, od29, .func (PySem.W.fnOf "_law_take" "_law_take" (defArgs s__law_take) (defBody s__law_take) (defScope s__law_take) .none kV29 dc29 pm29 an29 cd29 ct29), sl29⟩) (c29 : PySem.W.codeIn K cd29 "_law_take" = true) (k29 : PySem.W.keepIn K (.ref f29) = true)
    (a30 : PySem.W.nsIn K mainGlobals "_law_anew" = some (some (.ref f30))) (l30 : K.lookup f30 = some ⟨oc30, od30, .func (PySem.W.fnOf "_law_anew" "_law_anew" (defArgs s__law_anew) (defBody s__law_anew) (defScope s__law_anew) .none kV30 dc30 pm30 an30 cd30 ct30), sl30⟩) (c30 : PySem.W.codeIn K cd30 "_law_anew" = true) (k30 : PySem.W.keepIn K (.ref f30) = true)
    (a31 : PySem.W.nsIn K mainGlobals "_law_one" = some (some (.ref f31))) (l31 : K.lookup f31 = some ⟨oc31, od31, .func (PySem.W.fnOf "_law_one" "_law_one" (defArgs s__law_one) (defBody s__law_one) (defScope s__law_one) .none kV31 dc31 pm31 an31 cd31 ct31), sl31⟩) (c31 : PySem.W.codeIn K cd31 "_law_one" = true) (k31 : PySem.W.keepIn K (.ref f31) = true)
    (a32 : PySem.W.nsIn K mainGlobals "_law_divisor" = some (some (.ref f32))) (l32 : K.lookup f32 = some ⟨oc32, od32, .func (PySem.W.fnOf "_law_divisor" "_law_divisor" (defArgs s__law_divisor) (defBody s__law_divisor) (defScope s__law_divisor) .none kV32 dc32 pm32 an32 cd32 ct32), sl32⟩) (c32 : PySem.W.codeIn K cd32 "_law_divisor" = true) (k32 : PySem.W.keepIn K (.ref f32) = true)
    (a33 : PySem.W.nsIn K mainGlobals "_law_frac" = some (some (.ref f33))) (l33 : K.lookup f33 = some ⟨oc33, od33, .func (PySem.W.fnOf "_law_frac" "_law_frac" (defArgs s__law_frac) (defBody s__law_frac) (defScope s__law_frac) .none kV33 dc33 pm33 an33 cd33 ct33), sl33⟩) (c33 : PySem.W.codeIn K cd33 "_law_frac" = true) (k33 : PySem.W.keepIn K (.ref f33) = true)
    (a34 : PySem.W.nsIn K mainGlobals "_law_add" = some (some (.ref f34))) (l34 : K.lookup f34 = some ⟨oc34, od34, .func (PySem.W.fnOf "_law_add" "_law_add" (defArgs s__law_add) (defBody s__law_add) (defScope s__law_add) .none kV34 dc34 pm34 an34 cd34 ct34), sl34⟩) (c34 : PySem.W.codeIn K cd34 "_law_add" = true) (k34 : PySem.W.keepIn K (.ref f34) = true)
    (a35 : PySem.W.nsIn K mainGlobals "_law_mul" = some (some (.ref f35))) (l35 : K.lookup f35 = some ⟨oc35, od35, .func (PySem.W.fnOf "_law_mul" "_law_mul" (defArgs s__law_mul) (defBody s__law_mul) (defScope s__law_mul) .none kV35 dc35 pm35 an35 cd35 ct35), sl35⟩) (c35 : PySem.W.codeIn K cd35 "_law_mul" = true) (k35 : PySem.W.keepIn K (.ref f35) = true)
    (a36 : PySem.W.nsIn K mainGlobals "_law_sub" = some (some (.ref f36))) (l36 : K.lookup f36 = some ⟨oc36, od36, .func (PySem.W.fnOf "_law_sub" "_law_sub" (defArgs s__law_sub) (defBody s__law_sub) (defScope s__law_sub) .none kV36 dc36 pm36 an36 cd36 ct36), sl36⟩) (c36 : PySem.W.codeIn K cd36 "_law_sub" = true) (k36 : PySem.W.keepIn K (.ref f36) = true)
    (a37 : PySem.W.nsIn K mainGlobals "_law_is_less" = some (some (.ref f37))) (l37 : K.lookup f37 = some ⟨oc37, od37, .func (PySem.W.fnOf "_law_is_less" "_law_is_less" (defArgs s__law_is_less) (defBody s__law_is_less) (defScope s__law_is_less) .none kV37 dc37 pm37 an37 cd37 ct37), sl37⟩) (c37 : PySem.W.codeIn K cd37 "_law_is_less" = true) (k37 : PySem.W.keepIn K (.ref f37) = true)
    (a38 : PySem.W.nsIn K mainGlobals "_law_same" = some (some (.ref f38))) (l38 : K.lookup f38 = some ⟨oc38, od38, .func (PySem.W.fnOf "_law_same" "_law_same" (defArgs s__law_same) (defBody s__law_same) (defScope s__law_same) .none kV38 dc38 pm38 an38 cd38 ct38), sl38⟩) (c38 : PySem.W.codeIn K cd38 "_law_same" = true) (k38 : PySem.W.keepIn K (.ref f38) = true)
    (a39 : PySem.W.nsIn K mainGlobals "_law_share" = some (some (.ref f39))) (l39 : K.lookup f39 = some ⟨oc39, od39, .func (PySem.W.fnOf "_law_share" "_law_share" (defArgs s__law_share) (defBody s__law_share) (defScope s__law_share) .none kV39 dc39 pm39 an39 cd39 ct39), sl39⟩) (c39 : PySem.W.codeIn K cd39 "_law_share" = true) (k39 : PySem.W.keepIn K (.ref f39) = true)
    (a40 : PySem.W.nsIn K mainGlobals "_law_group" = some (some (.ref f40))) (l40 : K.lookup f40 = some ⟨oc40, od40, .func (PySem.W.fnOf "_law_group" "_law_group" (defArgs s__law_group) (defBody s__law_group) (defScope s__law_group) .none kV40 dc40 pm40 an40 cd40 ct40), sl40⟩) (c40 : PySem.W.codeIn K cd40 "_law_group" = true) (k40 : PySem.W.keepIn K (.ref f40) = true)
    (a41 : PySem.W.nsIn K mainGlobals "_law_orders" = some (some (.ref f41))) (l41 : K.lookup f41 = some ⟨oc41, od41, .func (PySem.W.fnOf "_law_orders" "_law_orders" (defArgs s__law_orders) (defBody s__law_orders) (defScope s__law_orders) .none kV41 dc41 pm41 an41 cd41 ct41), sl41⟩) (c41 : PySem.W.codeIn K cd41 "_law_orders" = true) (k41 : PySem.W.keepIn K (.ref f41) = true)
    (a42 : PySem.W.nsIn K mainGlobals "_law_order_cost" = some (some (.ref f42))) (l42 : K.lookup f42 = some ⟨oc42, od42, .func (PySem.W.fnOf "_law_order_cost" "_law_order_cost" (defArgs s__law_order_cost) (defBody s__law_order_cost) (defScope s__law_order_cost) .none kV42 dc42 pm42 an42 cd42 ct42), sl42⟩) (c42 : PySem.W.codeIn K cd42 "_law_order_cost" = true) (k42 : PySem.W.keepIn K (.ref f42) = true)
    (a43 : PySem.W.nsIn K mainGlobals "_law_least" = some (some (.ref f43))) (l43 : K.lookup f43 = some ⟨oc43, od43, .func (PySem.W.fnOf "_law_least" "_law_least" (defArgs s__law_least) (defBody s__law_least) (defScope s__law_least) .none kV43 dc43 pm43 an43 cd43 ct43), sl43⟩) (c43 : PySem.W.codeIn K cd43 "_law_least" = true) (k43 : PySem.W.keepIn K (.ref f43) = true)
    (a44 : PySem.W.nsIn K mainGlobals "_law_group_term" = some (some (.ref f44))) (l44 : K.lookup f44 = some ⟨oc44, od44, .func (PySem.W.fnOf "_law_group_term" "_law_group_term" (defArgs s__law_group_term) (defBody s__law_group_term) (defScope s__law_group_term) .none kV44 dc44 pm44 an44 cd44 ct44), sl44⟩) (c44 : PySem.W.codeIn K cd44 "_law_group_term" = true) (k44 : PySem.W.keepIn K (.ref f44) = true)
    (a45 : PySem.W.nsIn K mainGlobals "_law_error" = some (some (.ref f45))) (l45 : K.lookup f45 = some ⟨oc45, od45, .func (PySem.W.fnOf "_law_error" "_law_error" (defArgs s__law_error) (defBody s__law_error) (defScope s__law_error) .none kV45 dc45 pm45 an45 cd45 ct45), sl45⟩) (c45 : PySem.W.codeIn K cd45 "_law_error" = true) (k45 : PySem.W.keepIn K (.ref f45) = true)
    (a46 : PySem.W.nsIn K mainGlobals "_law_odd_group" = some (some (.ref f46))) (l46 : K.lookup f46 = some ⟨oc46, od46, .func (PySem.W.fnOf "_law_odd_group" "_law_odd_group" (defArgs s__law_odd_group) (defBody s__law_odd_group) (defScope s__law_odd_group) .none kV46 dc46 pm46 an46 cd46 ct46), sl46⟩) (c46 : PySem.W.codeIn K cd46 "_law_odd_group" = true) (k46 : PySem.W.keepIn K (.ref f46) = true)
    (a47 : PySem.W.nsIn K mainGlobals "_law_odd_order" = some (some (.ref f47))) (l47 : K.lookup f47 = some ⟨oc47, od47, .func (PySem.W.fnOf "_law_odd_order" "_law_odd_order" (defArgs s__law_odd_order) (defBody s__law_odd_order) (defScope s__law_odd_order) .none kV47 dc47 pm47 an47 cd47 ct47), sl47⟩) (c47 : PySem.W.codeIn K cd47 "_law_odd_order" = true) (k47 : PySem.W.keepIn K (.ref f47) = true)
    (a48 : PySem.W.nsIn K mainGlobals "law" = some (some (.ref f48))) (l48 : K.lookup f48 = some ⟨oc48, od48, .func (PySem.W.fnOf "law" "law" (defArgs s_law) (defBody s_law) (defScope s_law) .none kV48 dc48 pm48 an48 cd48 ct48), sl48⟩) (c48 : PySem.W.codeIn K cd48 "law" = true) (k48 : PySem.W.keepIn K (.ref f48) = true)
    (z_abs : PySem.W.nsIn K mainGlobals "abs" = some none)
    (z_all : PySem.W.nsIn K mainGlobals "all" = some none)
    (z_bool : PySem.W.nsIn K mainGlobals "bool" = some none)
    (z_enumerate : PySem.W.nsIn K mainGlobals "enumerate" = some none)
    (z_int : PySem.W.nsIn K mainGlobals "int" = some none)
    (z_isinstance : PySem.W.nsIn K mainGlobals "isinstance" = some none)
    (z_len : PySem.W.nsIn K mainGlobals "len" = some none)
    (z_list : PySem.W.nsIn K mainGlobals "list" = some none)
    (z_range : PySem.W.nsIn K mainGlobals "range" = some none)
    (z_repr : PySem.W.nsIn K mainGlobals "repr" = some none)
    (z_reversed : PySem.W.nsIn K mainGlobals "reversed" = some none)
    (z_tuple : PySem.W.nsIn K mainGlobals "tuple" = some none)
    (z_gcd : PySem.W.nsIn K mainGlobals "gcd" = some (some (.builtin "math.gcd")))
    (zN : PySem.W.nsIn K mainGlobals "END" = some (some (.ref aN))) (lN : K.lookup aN = some ⟨.type "tuple", ddN, .seq #[.str "end" tN] nN, slN⟩)
    (zZ : PySem.W.nsIn K mainGlobals "ZERO" = some (some (.ref aZ))) (lZ : K.lookup aZ = some ⟨.type "tuple", ddZ, .seq #[.int 0 tZ, .int 1 uZ] nZ, slZ⟩)
    (zO : PySem.W.nsIn K mainGlobals "ONE" = some (some (.ref aO))) (lO : K.lookup aO = some ⟨.type "tuple", ddO, .seq #[.int 1 tO, .int 1 uO] nO, slO⟩)
    (zMOST_TESTS : PySem.W.nsIn K mainGlobals "MOST_TESTS" = some (some (.int 4 tMOST_TESTS)))
    (zVE : PySem.W.nsIn K mainGlobals "ValueError" = some none) (zv : PySem.W.findCls K (.type "ValueError") (.type "type") "__init__" = some (.val (.builtin "ValueError.__init__"))) (zM_ : PySem.W.nsIn K mainGlobals "MixError" = some (some (.ref CM_))) (iM_ : PySem.W.findCls K (.ref CM_) (.type "type") "__init__" = some (.val (.ref fM_))) (lM_ : K.lookup fM_ = some ⟨ocM_, odM_, .func (PySem.W.fnOf "__init__" "MixError.__init__" (defArgs s_i_MixError) (defBody s_i_MixError) (defScope s_i_MixError) .none kVM_ dcM_ pmM_ anM_ cdM_ ctM_), slM_⟩) (cM_ : PySem.W.codeIn K cdM_ "MixError.__init__" = true) (xM_ : baseB K CM_ fM_ = true)
    (z_BadGroup : PySem.W.nsIn K mainGlobals "BadGroup" = some (some (.ref C_BadGroup))) (i_BadGroup : PySem.W.findIn K (.ref C_BadGroup) "__init__" = some (some (.ref f_BadGroup))) (l_BadGroup : K.lookup f_BadGroup = some ⟨oc_BadGroup, od_BadGroup, .func (PySem.W.fnOf "__init__" "BadGroup.__init__" (defArgs s_i_BadGroup) (defBody s_i_BadGroup) (defScope s_i_BadGroup) .none kV_BadGroup dc_BadGroup pm_BadGroup an_BadGroup cd_BadGroup ct_BadGroup), sl_BadGroup⟩) (c_BadGroup : PySem.W.codeIn K cd_BadGroup "BadGroup.__init__" = true) (k_BadGroup : PySem.W.keepIn K (.ref f_BadGroup) = true) (x_BadGroup : errB K C_BadGroup CM_ f_BadGroup "BadGroup" = true)
    (z_BadGroupOrder : PySem.W.nsIn K mainGlobals "BadGroupOrder" = some (some (.ref C_BadGroupOrder))) (i_BadGroupOrder : PySem.W.findIn K (.ref C_BadGroupOrder) "__init__" = some (some (.ref f_BadGroupOrder))) (l_BadGroupOrder : K.lookup f_BadGroupOrder = some ⟨oc_BadGroupOrder, od_BadGroupOrder, .func (PySem.W.fnOf "__init__" "BadGroupOrder.__init__" (defArgs s_i_BadGroupOrder) (defBody s_i_BadGroupOrder) (defScope s_i_BadGroupOrder) .none kV_BadGroupOrder dc_BadGroupOrder pm_BadGroupOrder an_BadGroupOrder cd_BadGroupOrder ct_BadGroupOrder), sl_BadGroupOrder⟩) (c_BadGroupOrder : PySem.W.codeIn K cd_BadGroupOrder "BadGroupOrder.__init__" = true) (k_BadGroupOrder : PySem.W.keepIn K (.ref f_BadGroupOrder) = true) (x_BadGroupOrder : errB K C_BadGroupOrder CM_ f_BadGroupOrder "BadGroupOrder" = true)
    (tA : cd18 = .ref cA) (uA : K.lookup cA = some ⟨ocA, ddA, .fields vsA, slA⟩) (vA : vsA[11]? = some (.ref PA)) (nA : K.lookup PA = none) (hA : CodeK ocA vsA cA PA) :
    ∃ (fd : FuncData) (cs : List (Addr × Addr)), (∀ p ∈ cs, h.get? p.2 = some { cls := .none, data := .fields #[] }) ∧ (∀ p ∈ cs, K.lookup p.2 = none) ∧ (∀ p ∈ cs, PySem.W.CodeHd h p.1 p.2) ∧ (∀ (s : Shared) (u : Value), BindsTo s fd ⟨[u], []⟩ [("_law_script", u)]) ∧
      (∀ (H : Hp) (a : Addr) (ns : List Int), ns.length ≤ 63 → (∀ p ∈ cs, H p.2 = some (.tbl #[])) → SqL K H a (ns.map V.int) → spLaw K PA [.ref a] H (fun v _ => v = .bl true) E0) ∧
      ∀ base : Heap, K.In base → base.Ns mainGlobals mg → (∀ p ∈ cs, GxR.TabB base mg p.1 p.2) → FnG l.prog w K mg base 12 fa fd ["_law_script"] (spLaw K PA) := by
  have e := hfa.symm.trans (PySem.W.mg_of X G a48)
  cases e
  let T : Txt K mg := {
    d_is_whole := ⟨f1, _, fun_mk (st := s_is_whole) l1 c1 k1, (fun_mk (st := s_is_whole) l1 c1 k1).binds (ps := ["value"]) (fun _ _ _ _ _ _ us hl => match us, hl with | [_], _ => rfl), PySem.W.mg_of X G a1⟩,
    d_is_number_below := ⟨f2, _, fun_mk (st := s_is_number_below) l2 c2 k2, (fun_mk (st := s_is_number_below) l2 c2 k2).binds (ps := ["value", "count"]) (fun _ _ _ _ _ _ us hl => match us, hl with | [_, _], _ => rfl), PySem.W.mg_of X G a2⟩,
    d_is_fraction := ⟨f3, _, fun_mk (st := s_is_fraction) l3 c3 k3, (fun_mk (st := s_is_fraction) l3 c3 k3).binds (ps := ["value"]) (fun _ _ _ _ _ _ us hl => match us, hl with | [_], _ => rfl), PySem.W.mg_of X G a3⟩,
    d_is_from_zero := ⟨f4, _, fun_mk (st := s_is_from_zero) l4 c4 k4, (fun_mk (st := s_is_from_zero) l4 c4 k4).binds (ps := ["value"]) (fun _ _ _ _ _ _ us hl => match us, hl with | [_], _ => rfl), PySem.W.mg_of X G a4⟩,
    d_is_proper := ⟨f5, _, fun_mk (st := s_is_proper) l5 c5 k5, (fun_mk (st := s_is_proper) l5 c5 k5).binds (ps := ["value"]) (fun _ _ _ _ _ _ us hl => match us, hl with | [_], _ => rfl), PySem.W.mg_of X G a5⟩,
    d_lowest := ⟨f6, _, fun_mk (st := s_lowest) l6 c6 k6, (fun_mk (st := s_lowest) l6 c6 k6).binds (ps := ["top", "bottom"]) (fun _ _ _ _ _ _ us hl => match us, hl with | [_, _], _ => rfl), PySem.W.mg_of X G a6⟩,
    d_add := ⟨f7, _, fun_mk (st := s_add) l7 c7 k7, (fun_mk (st := s_add) l7 c7 k7).binds (ps := ["one", "other"]) (fun _ _ _ _ _ _ us hl => match us, hl with | [_, _], _ => rfl), PySem.W.mg_of X G a7⟩,
    d_subtract := ⟨f8, _, fun_mk (st := s_subtract) l8 c8 k8, (fun_mk (st := s_subtract) l8 c8 k8).binds (ps := ["one", "other"]) (fun _ _ _ _ _ _ us hl => match us, hl with | [_, _], _ => rfl), PySem.W.mg_of X G a8⟩,
    d_multiply := ⟨f9, _, fun_mk (st := s_multiply) l9 c9 k9, (fun_mk (st := s_multiply) l9 c9 k9).binds (ps := ["one", "other"]) (fun _ _ _ _ _ _ us hl => match us, hl with | [_, _], _ => rfl), PySem.W.mg_of X G a9⟩,
    d_negative := ⟨f10, _, fun_mk (st := s_negative) l10 c10 k10, (fun_mk (st := s_negative) l10 c10 k10).binds (ps := ["amount"]) (fun _ _ _ _ _ _ us hl => match us, hl with | [_], _ => rfl), PySem.W.mg_of X G a10⟩,
    d_is_sequence := ⟨f11, _, fun_mk (st := s_is_sequence) l11 c11 k11, (fun_mk (st := s_is_sequence) l11 c11 k11).binds (ps := ["parents", "value"]) (fun _ _ _ _ _ _ us hl => match us, hl with | [_, _], _ => rfl), PySem.W.mg_of X G a11⟩,
    d_run_of := ⟨f12, _, fun_mk (st := s_run_of) l12 c12 k12, (fun_mk (st := s_run_of) l12 c12 k12).binds (ps := ["forest", "tasks"]) (fun _ _ _ _ _ _ us hl => match us, hl with | [_, _], _ => rfl), PySem.W.mg_of X G a12⟩,
    d_has_bit := ⟨f13, _, fun_mk (st := s_has_bit) l13 c13 k13, (fun_mk (st := s_has_bit) l13 c13 k13).binds (ps := ["bits", "number"]) (fun _ _ _ _ _ _ us hl => match us, hl with | [_, _], _ => rfl), PySem.W.mg_of X G a13⟩,
    d_open_tasks := ⟨f14, _, fun_mk (st := s_open_tasks) l14 c14 k14, (fun_mk (st := s_open_tasks) l14 c14 k14).binds (ps := ["forest", "done"]) (fun _ _ _ _ _ _ us hl => match us, hl with | [_, _], _ => rfl), PySem.W.mg_of X G a14⟩,
    d_best_by_sets := ⟨f15, _, fun_mk (st := s_best_by_sets) l15 c15 k15, (fun_mk (st := s_best_by_sets) l15 c15 k15).binds (ps := ["forest"]) (fun _ _ _ _ _ _ us hl => match us, hl with | [_], _ => rfl), PySem.W.mg_of X G a15⟩,
    d_best_run := ⟨f16, _, fun_mk (st := s_best_run) l16 c16 k16, (fun_mk (st := s_best_run) l16 c16 k16).binds (ps := ["forest"]) (fun _ _ _ _ _ _ us hl => match us, hl with | [_], _ => rfl), PySem.W.mg_of X G a16⟩,
    d_is_test := ⟨f17, _, fun_mk (st := s_is_test) l17 c17 k17, (fun_mk (st := s_is_test) l17 c17 k17).binds (ps := ["value", "number"]) (fun _ _ _ _ _ _ us hl => match us, hl with | [_, _], _ => rfl), PySem.W.mg_of X G a17⟩,
    d_is_group := ⟨f18, _, fun_mk (st := s_is_group) l18 c18 k18, (fun_mk (st := s_is_group) l18 c18 k18).binds (ps := ["value"]) (fun _ _ _ _ _ _ us hl => match us, hl with | [_], _ => rfl), PySem.W.mg_of X G a18⟩,
    d_require_group := ⟨f19, _, fun_mk (st := s_require_group) l19 c19 k19, (fun_mk (st := s_require_group) l19 c19 k19).binds (ps := ["value"]) (fun _ _ _ _ _ _ us hl => match us, hl with | [_], _ => rfl), PySem.W.mg_of X G a19⟩,
    d_as_forest := ⟨f20, _, fun_mk (st := s_as_forest) l20 c20 k20, (fun_mk (st := s_as_forest) l20 c20 k20).binds (ps := ["group"]) (fun _ _ _ _ _ _ us hl => match us, hl with | [_], _ => rfl), PySem.W.mg_of X G a20⟩,
    d_term_of_group := ⟨f21, _, fun_mk (st := s_term_of_group) l21 c21 k21, (fun_mk (st := s_term_of_group) l21 c21 k21).binds (ps := ["group", "order"]) (fun _ _ _ _ _ _ us hl => match us, hl with | [_, _], _ => rfl), PySem.W.mg_of X G a21⟩,
    d_is_group_order := ⟨f22, _, fun_mk (st := s_is_group_order) l22 c22 k22, (fun_mk (st := s_is_group_order) l22 c22 k22).binds (ps := ["group", "value"]) (fun _ _ _ _ _ _ us hl => match us, hl with | [_, _], _ => rfl), PySem.W.mg_of X G a22⟩,
    d_require_group_and_order := ⟨f23, _, fun_mk (st := s_require_group_and_order) l23 c23 k23, (fun_mk (st := s_require_group_and_order) l23 c23 k23).binds (ps := ["group", "order"]) (fun _ _ _ _ _ _ us hl => match us, hl with | [_, _], _ => rfl), PySem.W.mg_of X G a23⟩,
    d_group_cost := ⟨f24, _, fun_mk (st := s_group_cost) l24 c24 k24, (fun_mk (st := s_group_cost) l24 c24 k24).binds (ps := ["group", "order"]) (fun _ _ _ _ _ _ us hl => match us, hl with | [_, _], _ => rfl), PySem.W.mg_of X G a24⟩,
    d_group_term := ⟨f25, _, fun_mk (st := s_group_term) l25 c25 k25, (fun_mk (st := s_group_term) l25 c25 k25).binds (ps := ["group", "order"]) (fun _ _ _ _ _ _ us hl => match us, hl with | [_, _], _ => rfl), PySem.W.mg_of X G a25⟩,
    d_least_order := ⟨f26, _, fun_mk (st := s_least_order) l26 c26 k26, (fun_mk (st := s_least_order) l26 c26 k26).binds (ps := ["group"]) (fun _ _ _ _ _ _ us hl => match us, hl with | [_], _ => rfl), PySem.W.mg_of X G a26⟩,
    d__law_spread := ⟨f27, _, fun_mk (st := s__law_spread) l27 c27 k27, (fun_mk (st := s__law_spread) l27 c27 k27).binds (ps := ["_law_cell", "_law_at"]) (fun _ _ _ _ _ _ us hl => match us, hl with | [_, _], _ => rfl), PySem.W.mg_of X G a27⟩,
    d__law_open := ⟨f28, _, fun_mk (st := s__law_open) l28 c28 k28, (fun_mk (st := s__law_open) l28 c28 k28).binds (ps := ["_law_script"]) (fun _ _ _ _ _ _ us hl => match us, hl with | [_], _ => rfl), PySem.W.mg_of X G a28⟩,
    d__law_take := ⟨f29, _, fun_mk (st := s__law_take) l29 c29 k29, (fun_mk (st := s__law_take) l29 c29 k29).binds (ps := ["_law_pen", "_law_many"]) (fun _ _ _ _ _ _ us hl => match us, hl with | [_, _], _ => rfl), PySem.W.mg_of X G a29⟩,
    d__law_anew := ⟨f30, _, fun_mk (st := s__law_anew) l30 c30 k30, (fun_mk (st := s__law_anew) l30 c30 k30).binds (ps := ["_law_pen"]) (fun _ _ _ _ _ _ us hl => match us, hl with | [_], _ => rfl), PySem.W.mg_of X G a30⟩,
    d__law_one := ⟨f31, _, fun_mk (st := s__law_one) l31 c31 k31, (fun_mk (st := s__law_one) l31 c31 k31).binds (ps := ["_law_pen", "_law_some"]) (fun _ _ _ _ _ _ us hl => match us, hl with | [_, _], _ => rfl), PySem.W.mg_of X G a31⟩,
    d__law_divisor := ⟨f32, _, fun_mk (st := s__law_divisor) l32 c32 k32, (fun_mk (st := s__law_divisor) l32 c32 k32).binds (ps := ["_law_one_here", "_law_other"]) (fun _ _ _ _ _ _ us hl => match us, hl with | [_, _], _ => rfl), PySem.W.mg_of X G a32⟩,
    d__law_frac := ⟨f33, _, fun_mk (st := s__law_frac) l33 c33 k33, (fun_mk (st := s__law_frac) l33 c33 k33).binds (ps := ["_law_top", "_law_bottom"]) (fun _ _ _ _ _ _ us hl => match us, hl with | [_, _], _ => rfl), PySem.W.mg_of X G a33⟩,
    d__law_add := ⟨f34, _, fun_mk (st := s__law_add) l34 c34 k34, (fun_mk (st := s__law_add) l34 c34 k34).binds (ps := ["_law_one_here", "_law_other"]) (fun _ _ _ _ _ _ us hl => match us, hl with | [_, _], _ => rfl), PySem.W.mg_of X G a34⟩,
    d__law_mul := ⟨f35, _, fun_mk (st := s__law_mul) l35 c35 k35, (fun_mk (st := s__law_mul) l35 c35 k35).binds (ps := ["_law_one_here", "_law_other"]) (fun _ _ _ _ _ _ us hl => match us, hl with | [_, _], _ => rfl), PySem.W.mg_of X G a35⟩,
    d__law_sub := ⟨f36, _, fun_mk (st := s__law_sub) l36 c36 k36, (fun_mk (st := s__law_sub) l36 c36 k36).binds (ps := ["_law_one_here", "_law_other"]) (fun _ _ _ _ _ _ us hl => match us, hl with | [_, _], _ => rfl), PySem.W.mg_of X G a36⟩,
    d__law_is_less := ⟨f37, _, fun_mk (st := s__law_is_less) l37 c37 k37, (fun_mk (st := s__law_is_less) l37 c37 k37).binds (ps := ["_law_one_here", "_law_other"]) (fun _ _ _ _ _ _ us hl => match us, hl with | [_, _], _ => rfl), PySem.W.mg_of X G a37⟩,
    d__law_same := ⟨f38, _, fun_mk (st := s__law_same) l38 c38 k38, (fun_mk (st := s__law_same) l38 c38 k38).binds (ps := ["_law_one_here", "_law_other"]) (fun _ _ _ _ _ _ us hl => match us, hl with | [_, _], _ => rfl), PySem.W.mg_of X G a38⟩,
    d__law_share := ⟨f39, _, fun_mk (st := s__law_share) l39 c39 k39, (fun_mk (st := s__law_share) l39 c39 k39).binds (ps := ["_law_pen"]) (fun _ _ _ _ _ _ us hl => match us, hl with | [_], _ => rfl), PySem.W.mg_of X G a39⟩,
    d__law_group := ⟨f40, _, fun_mk (st := s__law_group) l40 c40 k40, (fun_mk (st := s__law_group) l40 c40 k40).binds (ps := ["_law_pen", "_law_many"]) (fun _ _ _ _ _ _ us hl => match us, hl with | [_, _], _ => rfl), PySem.W.mg_of X G a40⟩,
    d__law_orders := ⟨f41, _, fun_mk (st := s__law_orders) l41 c41 k41, (fun_mk (st := s__law_orders) l41 c41 k41).binds (ps := ["_law_group_here"]) (fun _ _ _ _ _ _ us hl => match us, hl with | [_], _ => rfl), PySem.W.mg_of X G a41⟩,
    d__law_order_cost := ⟨f42, _, fun_mk (st := s__law_order_cost) l42 c42 k42, (fun_mk (st := s__law_order_cost) l42 c42 k42).binds (ps := ["_law_group_here", "_law_order"]) (fun _ _ _ _ _ _ us hl => match us, hl with | [_, _], _ => rfl), PySem.W.mg_of X G a42⟩,
    d__law_least := ⟨f43, _, fun_mk (st := s__law_least) l43 c43 k43, (fun_mk (st := s__law_least) l43 c43 k43).binds (ps := ["_law_group_here"]) (fun _ _ _ _ _ _ us hl => match us, hl with | [_], _ => rfl), PySem.W.mg_of X G a43⟩,
    d__law_group_term := ⟨f44, _, fun_mk (st := s__law_group_term) l44 c44 k44, (fun_mk (st := s__law_group_term) l44 c44 k44).binds (ps := ["_law_group_here", "_law_order"]) (fun _ _ _ _ _ _ us hl => match us, hl with | [_, _], _ => rfl), PySem.W.mg_of X G a44⟩,
    d__law_error := ⟨f45, _, fun_mk (st := s__law_error) l45 c45 k45, (fun_mk (st := s__law_error) l45 c45 k45).binds (ps := ["_law_call", "_law_group_here", "_law_order"]) (fun _ _ _ _ _ _ us hl => match us, hl with | [_, _, _], _ => rfl), PySem.W.mg_of X G a45⟩,
    d__law_odd_group := ⟨f46, _, fun_mk (st := s__law_odd_group) l46 c46 k46, (fun_mk (st := s__law_odd_group) l46 c46 k46).binds (ps := ["_law_pen", "_law_group_here"]) (fun _ _ _ _ _ _ us hl => match us, hl with | [_, _], _ => rfl), PySem.W.mg_of X G a46⟩,
    d__law_odd_order := ⟨f47, _, fun_mk (st := s__law_odd_order) l47 c47 k47, (fun_mk (st := s__law_odd_order) l47 c47 k47).binds (ps := ["_law_pen", "_law_group_here"]) (fun _ _ _ _ _ _ us hl => match us, hl with | [_, _], _ => rfl), PySem.W.mg_of X G a47⟩,
    d_law := ⟨fa, _, fun_mk (st := s_law) l48 c48 k48, (fun_mk (st := s_law) l48 c48 k48).binds (ps := ["_law_script"]) (fun _ _ _ _ _ _ us hl => match us, hl with | [_], _ => rfl), PySem.W.mg_of X G a48⟩,
    n_abs := PySem.W.mg_none_of X G z_abs,
    n_all := PySem.W.mg_none_of X G z_all,
    n_bool := PySem.W.mg_none_of X G z_bool,
    n_enumerate := PySem.W.mg_none_of X G z_enumerate,
    n_int := PySem.W.mg_none_of X G z_int,
    n_isinstance := PySem.W.mg_none_of X G z_isinstance,
    n_len := PySem.W.mg_none_of X G z_len,
    n_list := PySem.W.mg_none_of X G z_list,
    n_range := PySem.W.mg_none_of X G z_range,
    n_repr := PySem.W.mg_none_of X G z_repr,
    n_reversed := PySem.W.mg_none_of X G z_reversed,
    n_tuple := PySem.W.mg_none_of X G z_tuple,
    n_gcd := PySem.W.mg_of X G z_gcd,
    a_END := aN, c_END := PySem.W.mg_of X G zN, k_END := ⟨_, _, _, lN, rfl, rfl, (by show 1 ≤ sizeLine; decide), .cons ⟨_, rfl⟩ .nil⟩,
    a_ZERO := aZ, c_ZERO := PySem.W.mg_of X G zZ, k_ZERO := ⟨_, _, _, lZ, rfl, rfl, (by show 2 ≤ sizeLine; decide), .cons ⟨_, rfl⟩ (.cons ⟨_, rfl⟩ .nil)⟩,
    a_ONE := aO, c_ONE := PySem.W.mg_of X G zO, k_ONE := ⟨_, _, _, lO, rfl, rfl, (by show 2 ≤ sizeLine; decide), .cons ⟨_, rfl⟩ (.cons ⟨_, rfl⟩ .nil)⟩,
    t_MOST_TESTS := tMOST_TESTS, c_MOST_TESTS := PySem.W.mg_of X G zMOST_TESTS,
    n_ValueError := PySem.W.mg_none_of X G zVE, v_VE := zv, M := { C := CM_, f := fM_, fd := _, g := PySem.W.mg_of X G zM_, F := fun_mk (st := s_i_MixError) lM_ cM_ (base_ok xM_).2.2, b := (fun_mk (st := s_i_MixError) lM_ cM_ (base_ok xM_).2.2).binds (ps := ["self", "value"]) (fun _ _ _ _ _ _ us hl => match us, hl with | [_, _], _ => rfl), rd := (base_ok xM_).1, ga := (base_ok xM_).2.1, fi := iM_, kp := (base_ok xM_).2.2 },
    E_BadGroup := { C := C_BadGroup, f := f_BadGroup, fd := _, g := PySem.W.mg_of X G z_BadGroup, F := fun_mk (st := s_i_BadGroup) l_BadGroup c_BadGroup k_BadGroup, b := (fun_mk (st := s_i_BadGroup) l_BadGroup c_BadGroup k_BadGroup).binds (ps := ["self", "value"]) (fun _ _ _ _ _ _ us hl => match us, hl with | [_, _], _ => rfl), x := err_ok x_BadGroup },
    E_BadGroupOrder := { C := C_BadGroupOrder, f := f_BadGroupOrder, fd := _, g := PySem.W.mg_of X G z_BadGroupOrder, F := fun_mk (st := s_i_BadGroupOrder) l_BadGroupOrder c_BadGroupOrder k_BadGroupOrder, b := (fun_mk (st := s_i_BadGroupOrder) l_BadGroupOrder c_BadGroupOrder k_BadGroupOrder).binds (ps := ["self", "value"]) (fun _ _ _ _ _ _ us hl => match us, hl with | [_, _], _ => rfl), x := err_ok x_BadGroupOrder },
    c_is_group := cA, P_is_group := PA, h_is_group := tA }
  refine ⟨PySem.W.fnOf "law" "law" (defArgs s_law) (defBody s_law) (defScope s_law) .none kV48 dc48 pm48 an48 cd48 ct48, [(cA, PA)], ?_, ?_, ?_, fun s v => .of_eq rfl, ?_, fun base _ _ hb => ok_law T (hb (cA, PA) (by simp))⟩
  · intro p hp
    rw [List.mem_singleton] at hp
    subst hp
    exact hE f18 cA PA _ _ _ _ _ _ (PySem.W.mg_of X G a18) l18 rfl tA uA vA
  · intro p hp
    rw [List.mem_singleton] at hp
    subst hp
    exact nA
  · intro p hp
    rw [List.mem_singleton] at hp
    subst hp
    obtain ⟨file, tf, flags, tg, inF, text, tt, h1, h2, h3, h4, h5, h6, h7⟩ := hA
    exact ⟨_, vsA, file, tf, flags, tg, inF, text, tt, X _ _ uA, h1, rfl, vA, h2, h3, h4, h5, h6, h7⟩
  · intro H a ns hl hT hS
    exact ⟨a, ns, rfl, hS, hl, ⟨#[], hT (cA, PA) (by simp), trivial⟩, fun _ => rfl⟩
end Jf
open PySem PySem.W PyProof.Rows
set_option maxRecDepth 100000 in
set_option maxHeartbeats 0 in
theorem PySem.Challenge.cw_onenumber_k64_groups_of_tests_holds : PySem.Challenge.rw_onenumber_k64_groups_of_tests.Holds := by
  w_on; o_law; k_head; (case hw => w_witness2)
  k_fill
  refine' Jf.walk_ofGK (l := PySem.Challenge.rw_onenumber_k64_groups_of_tests) (n := 63) (k := 12) (x := "_law_script") (y := "is_group") (sp := Jf.spLaw) rfl (by decide) rfl ⟨rfl, by decide, by decide⟩ (by decide) (fun w h Y => PySem.W.kIn_of Y) ?F
  case F =>
    intro w mg fa h KX G hmg hE
    refine' Jf.all_mk KX G hmg hE ?a1 ?l1 ?c1 ?k1 ?a2 ?l2 ?c2 ?k2 ?a3 ?l3 ?c3 ?k3 ?a4 ?l4 ?c4 ?k4 ?a5 ?l5 ?c5 ?k5 ?a6 ?l6 ?c6 ?k6 ?a7 ?l7 ?c7 ?k7 ?a8 ?l8 ?c8 ?k8 ?a9 ?l9 ?c9 ?k9 ?a10 ?l10 ?c10 ?k10 ?a11 ?l11 ?c11 ?k11 ?a12 ?l12 ?c12 ?k12 ?a13 ?l13 ?c13 ?k13 ?a14 ?l14 ?c14 ?k14 ?a15 ?l15 ?c15 ?k15 ?a16 ?l16 ?c16 ?k16 ?a17 ?l17 ?c17 ?k17 ?a18 ?l18 ?c18 ?k18 ?a19 ?l19 ?c19 ?k19 ?a20 ?l20 ?c20 ?k20 ?a21 ?l21 ?c21 ?k21 ?a22 ?l22 ?c22 ?k22 ?a23 ?l23 ?c23 ?k23 ?a24 ?l24 ?c24 ?k24 ?a25 ?l25 ?c25 ?k25 ?a26 ?l26 ?c26 ?k26 ?a27 ?l27 ?c27 ?k27 ?a28 ?l28 ?c28 ?k28 ?a29 ?l29 ?c29 ?k29 ?a30 ?l30 ?c30 ?k30 ?a31 ?l31 ?c31 ?k31 ?a32 ?l32 ?c32 ?k32 ?a33 ?l33 ?c33 ?k33 ?a34 ?l34 ?c34 ?k34 ?a35 ?l35 ?c35 ?k35 ?a36 ?l36 ?c36 ?k36 ?a37 ?l37 ?c37 ?k37 ?a38 ?l38 ?c38 ?k38 ?a39 ?l39 ?c39 ?k39 ?a40 ?l40 ?c40 ?k40 ?a41 ?l41 ?c41 ?k41 ?a42 ?l42 ?c42 ?k42 ?a43 ?l43 ?c43 ?k43 ?a44 ?l44 ?c44 ?k44 ?a45 ?l45 ?c45 ?k45 ?a46 ?l46 ?c46 ?k46 ?a47 ?l47 ?c47 ?k47 ?a48 ?l48 ?c48 ?k48 ?z_abs ?z_all ?z_bool ?z_enumerate ?z_int ?z_isinstance ?z_len ?z_list ?z_range ?z_repr ?z_reversed ?z_tuple ?z_gcd ?zN ?lN ?zZ ?lZ ?zO ?lO ?zMOST_TESTS ?zVE ?zv ?zM_ ?iM_ ?lM_ ?cM_ ?xM_ ?z_BadGroup ?i_BadGroup ?l_BadGroup ?c_BadGroup ?k_BadGroup ?x_BadGroup ?z_BadGroupOrder ?i_BadGroupOrder ?l_BadGroupOrder ?c_BadGroupOrder ?k_BadGroupOrder ?x_BadGroupOrder ?tA ?uA ?vA ?nA ?hA
    (case a1 => k_is)
    (case l1 => k_is)
    (case c1 => k_is)
    (case k1 => k_is)
    (case a2 => k_is)
    (case l2 => k_is)
    (case c2 => k_is)
    (case k2 => k_is)
    (case a3 => k_is)
    (case l3 => k_is)
    (case c3 => k_is)
    (case k3 => k_is)
    (case a4 => k_is)
    (case l4 => k_is)
    (case c4 => k_is)
    (case k4 => k_is)
    (case a5 => k_is)
    (case l5 => k_is)
    (case c5 => k_is)
    (case k5 => k_is)
    (case a6 => k_is)
    (case l6 => k_is)
    (case c6 => k_is)
    (case k6 => k_is)
    (case a7 => k_is)
    (case l7 => k_is)
    (case c7 => k_is)
    (case k7 => k_is)
    (case a8 => k_is)
    (case l8 => k_is)
    (case c8 => k_is)
    (case k8 => k_is)
    (case a9 => k_is)
    (case l9 => k_is)
    (case c9 => k_is)
    (case k9 => k_is)
    (case a10 => k_is)
    (case l10 => k_is)
    (case c10 => k_is)
    (case k10 => k_is)
    (case a11 => k_is)
    (case l11 => k_is)
    (case c11 => k_is)
    (case k11 => k_is)
    (case a12 => k_is)
    (case l12 => k_is)
    (case c12 => k_is)
    (case k12 => k_is)
    (case a13 => k_is)
    (case l13 => k_is)
    (case c13 => k_is)
    (case k13 => k_is)
    (case a14 => k_is)
    (case l14 => k_is)
    (case c14 => k_is)
    (case k14 => k_is)
    (case a15 => k_is)
    (case l15 => k_is)
    (case c15 => k_is)
    (case k15 => k_is)
    (case a16 => k_is)
    (case l16 => k_is)
    (case c16 => k_is)
    (case k16 => k_is)
    (case a17 => k_is)
    (case l17 => k_is)
    (case c17 => k_is)
    (case k17 => k_is)
    (case a18 => k_is)
    (case l18 => k_is)
    (case c18 => k_is)
    (case k18 => k_is)
    (case a19 => k_is)
    (case l19 => k_is)
    (case c19 => k_is)
    (case k19 => k_is)
    (case a20 => k_is)
    (case l20 => k_is)
    (case c20 => k_is)
    (case k20 => k_is)
    (case a21 => k_is)
    (case l21 => k_is)
    (case c21 => k_is)
    (case k21 => k_is)
    (case a22 => k_is)
    (case l22 => k_is)
    (case c22 => k_is)
    (case k22 => k_is)
    (case a23 => k_is)
    (case l23 => k_is)
    (case c23 => k_is)
    (case k23 => k_is)
    (case a24 => k_is)
    (case l24 => k_is)
    (case c24 => k_is)
    (case k24 => k_is)
    (case a25 => k_is)
    (case l25 => k_is)
    (case c25 => k_is)
    (case k25 => k_is)
    (case a26 => k_is)
    (case l26 => k_is)
    (case c26 => k_is)
    (case k26 => k_is)
    (case a27 => k_is)
    (case l27 => k_is)
    (case c27 => k_is)
    (case k27 => k_is)
    (case a28 => k_is)
    (case l28 => k_is)
    (case c28 => k_is)
    (case k28 => k_is)
    (case a29 => k_is)
    (case l29 => k_is)
    (case c29 => k_is)
    (case k29 => k_is)
    (case a30 => k_is)
    (case l30 => k_is)
    (case c30 => k_is)
    (case k30 => k_is)
    (case a31 => k_is)
    (case l31 => k_is)
    (case c31 => k_is)
    (case k31 => k_is)
    (case a32 => k_is)
    (case l32 => k_is)
    (case c32 => k_is)
    (case k32 => k_is)
    (case a33 => k_is)
    (case l33 => k_is)
    (case c33 => k_is)
    (case k33 => k_is)
    (case a34 => k_is)
    (case l34 => k_is)
    (case c34 => k_is)
    (case k34 => k_is)
    (case a35 => k_is)
    (case l35 => k_is)
    (case c35 => k_is)
    (case k35 => k_is)
    (case a36 => k_is)
    (case l36 => k_is)
    (case c36 => k_is)
    (case k36 => k_is)
    (case a37 => k_is)
    (case l37 => k_is)
    (case c37 => k_is)
    (case k37 => k_is)
    (case a38 => k_is)
    (case l38 => k_is)
    (case c38 => k_is)
    (case k38 => k_is)
    (case a39 => k_is)
    (case l39 => k_is)
    (case c39 => k_is)
    (case k39 => k_is)
    (case a40 => k_is)
    (case l40 => k_is)
    (case c40 => k_is)
    (case k40 => k_is)
    (case a41 => k_is)
    (case l41 => k_is)
    (case c41 => k_is)
    (case k41 => k_is)
    (case a42 => k_is)
    (case l42 => k_is)
    (case c42 => k_is)
    (case k42 => k_is)
    (case a43 => k_is)
    (case l43 => k_is)
    (case c43 => k_is)
    (case k43 => k_is)
    (case a44 => k_is)
    (case l44 => k_is)
    (case c44 => k_is)
    (case k44 => k_is)
    (case a45 => k_is)
    (case l45 => k_is)
    (case c45 => k_is)
    (case k45 => k_is)
    (case a46 => k_is)
    (case l46 => k_is)
    (case c46 => k_is)
    (case k46 => k_is)
    (case a47 => k_is)
    (case l47 => k_is)
    (case c47 => k_is)
    (case k47 => k_is)
    (case a48 => k_is)
    (case l48 => k_is)
    (case c48 => k_is)
    (case k48 => k_is)
    (case z_abs => k_is)
    (case z_all => k_is)
    (case z_bool => k_is)
    (case z_enumerate => k_is)
    (case z_int => k_is)
    (case z_isinstance => k_is)
    (case z_len => k_is)
    (case z_list => k_is)
    (case z_range => k_is)
    (case z_repr => k_is)
    (case z_reversed => k_is)
    (case z_tuple => k_is)
    (case z_gcd => k_is)
    (case zN => k_is)
    (case lN => k_is)
    (case zZ => k_is)
    (case lZ => k_is)
    (case zO => k_is)
    (case lO => k_is)
    (case zMOST_TESTS => k_is)
    (case zVE => k_is)
    (case zv => k_is)
    (case zM_ => k_is)
    (case iM_ => k_is)
    (case lM_ => k_is)
    (case cM_ => k_is)
    (case xM_ => kernel_rfl)
    (case z_BadGroup => k_is)
    (case i_BadGroup => k_is)
    (case l_BadGroup => k_is)
    (case c_BadGroup => k_is)
    (case k_BadGroup => k_is)
    (case x_BadGroup => kernel_rfl)
    (case z_BadGroupOrder => k_is)
    (case i_BadGroupOrder => k_is)
    (case l_BadGroupOrder => k_is)
    (case c_BadGroupOrder => k_is)
    (case k_BadGroupOrder => k_is)
    (case x_BadGroupOrder => kernel_rfl)
    (case tA => rfl)
    (case uA => k_is)
    (case vA => rfl)
    (case nA => rfl)
    (case hA => exact ⟨_, _, _, _, _, _, _, rfl, rfl, rfl, rfl, rfl, rfl, by decide⟩)
