import PyProof.Rows.All
import Wide.All
import OpenK.AllK
import Wide.FinOn
import HandS.ForMost
import HandS.Evl
import HandS.Gcd
import HandS.Wide
import HandS.Flow
import HandS.NoneIn
import HandS.IsInst
import HandS.Exc
import HandS.TryOnly
import HandS.ExcOwn
import HandS.WordsExc
import HandS.ExcInit
import HandS.ExcField
import HandS.ExcIs
import HandS.SetFor
import HandS.TupLe
import HandS.TryMany
import HandS.TupMul
import HandS.TupAny
import HandS.Style
import KE.KExcIs
import PyProof.ReprRoads
import HandS.AnyAll
import PyProof.WalksPairs
import PyProof.GenCompT
import PyProof.SumAny
import HandS.GenList
import KE.KTypeName
import PyProof.ListCopy
import KE.KRevSl
import HandS.Walk
import HandS.Rev
import HandS.RevRange
import HandS.Conv
import HandS.WideBits
import HandS.Small
import HandS.Deep
import KE.BitLaws
import PyProof.EnumMake
import PyProof.TupleIter
import KE.GoesEnumKw
import HandS.SortKw
import HandS.SortOrd
import HandS.More
import HandS.DictTup
import HandS.SortInts
import KE.KDictDisplayH
import PySem.Challenge.RW_onenumber_k54_best_orders
set_option Elab.async false
set_option linter.all false
/-! fractions as core rationals -/
namespace Jf
theorem gcd_pos {n d : Int} (hd : d ≠ 0) : 0 < Nat.gcd n.natAbs d.natAbs := Nat.gcd_pos_of_pos_right _ (by omega)
theorem low_split (n d : Int) (hd : d ≠ 0) : ∃ (g : Nat) (k m : Int), g = Nat.gcd n.natAbs d.natAbs ∧ 0 < g ∧ n = (g : Int) * k ∧ d = (g : Int) * m ∧ (Rat.divInt n d).num = d.sign * k ∧ ((Rat.divInt n d).den : Int) = d.sign * m := by
  have h1 : ((Nat.gcd n.natAbs d.natAbs : Nat) : Int) ∣ n := Int.ofNat_dvd_left.mpr (Nat.gcd_dvd_left _ _)
  have h2 : ((Nat.gcd n.natAbs d.natAbs : Nat) : Int) ∣ d := Int.ofNat_dvd_left.mpr (Nat.gcd_dvd_right _ _)
  obtain ⟨k, hk⟩ := h1
  obtain ⟨m, hm⟩ := h2
  have hp := gcd_pos (n := n) hd
  refine ⟨_, k, m, rfl, hp, hk, hm, ?_, ?_⟩
  · have hg : (d.gcd n : Nat) = Nat.gcd n.natAbs d.natAbs := by rw [Int.gcd_comm]; rfl
    rw [Rat.num_divInt, hg]
    generalize hG : Nat.gcd n.natAbs d.natAbs = G at *
    have hG0 : (G : Int) ≠ 0 := by omega
    rw [hk, ← Int.mul_assoc, Int.mul_comm d.sign (G : Int), Int.mul_assoc, Int.mul_ediv_cancel_left _ hG0]
  · have hg : (d.gcd n : Nat) = Nat.gcd n.natAbs d.natAbs := by rw [Int.gcd_comm]; rfl
    rw [Rat.den_divInt, if_neg hd, hg]
    generalize hG : Nat.gcd n.natAbs d.natAbs = G at *
    have hG0 : (G : Int) ≠ 0 := by omega
    have e : d.natAbs = G * m.natAbs := by rw [hm, Int.natAbs_mul]; rfl
    rw [e, Nat.mul_div_cancel_left _ hp]
    have hs : d.sign = m.sign := by rw [hm, Int.sign_mul, Int.sign_natCast_of_ne_zero (by omega), Int.one_mul]
    rw [hs, Int.sign_mul_self]
/-- the program's lowest -/
theorem lowest_eq (n d : Int) (hd : d ≠ 0) :
    n.fdiv (if d < 0 then -((Nat.gcd n.natAbs d.natAbs : Nat) : Int) else ((Nat.gcd n.natAbs d.natAbs : Nat) : Int)) = (Rat.divInt n d).num ∧
    d.fdiv (if d < 0 then -((Nat.gcd n.natAbs d.natAbs : Nat) : Int) else ((Nat.gcd n.natAbs d.natAbs : Nat) : Int)) = ((Rat.divInt n d).den : Int) := by
  obtain ⟨g, k, m, hg, hp, hn, hm, e1, e2⟩ := low_split n d hd
  rw [← hg, e1, e2]
  have hg0 : (g : Int) ≠ 0 := by omega
  by_cases h : d < 0
  · rw [if_pos h, Int.sign_eq_neg_one_of_neg h]
    have hn' : n = (-(g : Int)) * (-k) := by rw [hn]; grind
    have hm' : d = (-(g : Int)) * (-m) := by rw [hm]; grind
    have hg1 : (-(g : Int)) ≠ 0 := by omega
    constructor
    · rw [hn', Int.mul_fdiv_cancel_left _ hg1]; omega
    · rw [hm', Int.mul_fdiv_cancel_left _ hg1]; omega
  · rw [if_neg h, Int.sign_eq_one_of_pos (by omega)]
    constructor
    · rw [hn, Int.mul_fdiv_cancel_left _ hg0]; omega
    · rw [hm, Int.mul_fdiv_cancel_left _ hg0]; omega
/-- the law's low -/
theorem low_eq (n d : Int) (hd : d ≠ 0) (s : Int) (hs : s = if d < 0 then -1 else 1) :
    (s * n) / ((Nat.gcd n.natAbs d.natAbs : Nat) : Int) = (Rat.divInt n d).num ∧ (s * d) / ((Nat.gcd n.natAbs d.natAbs : Nat) : Int) = ((Rat.divInt n d).den : Int) := by
  obtain ⟨g, k, m, hg, hp, hn, hm, e1, e2⟩ := low_split n d hd
  rw [← hg, e1, e2]
  have hg0 : (g : Int) ≠ 0 := by omega
  have hs' : s = d.sign := by
    by_cases h : d < 0
    · rw [hs, if_pos h, Int.sign_eq_neg_one_of_neg h]
    · rw [hs, if_neg h, Int.sign_eq_one_of_pos (by omega)]
  rw [hs']
  constructor
  · rw [show d.sign * n = (g : Int) * (d.sign * k) by rw [hn]; grind, Int.mul_ediv_cancel_left _ hg0]
  · rw [show d.sign * d = (g : Int) * (d.sign * m) by
      generalize d.sign = z
      rw [hm]; grind, Int.mul_ediv_cancel_left _ hg0]
theorem num_le (n d : Int) (hd : d ≠ 0) : (Rat.divInt n d).num.natAbs ≤ n.natAbs := by
  obtain ⟨g, k, m, hg, hp, hn, hm, e1, e2⟩ := low_split n d hd
  have hs : d.sign.natAbs = 1 := by rw [Int.natAbs_sign, if_neg hd]
  rw [e1, Int.natAbs_mul, hs, hn, Int.natAbs_mul, Nat.one_mul]
  exact Nat.le_mul_of_pos_left _ (by omega)
theorem den_le (n d : Int) (hd : d ≠ 0) : (Rat.divInt n d).den ≤ d.natAbs := by
  obtain ⟨g, k, m, hg, hp, hn, hm, e1, e2⟩ := low_split n d hd
  have hs : d.sign.natAbs = 1 := by rw [Int.natAbs_sign, if_neg hd]
  have e3 : (Rat.divInt n d).den = m.natAbs := by
    have := congrArg Int.natAbs e2
    rw [Int.natAbs_mul, hs, Nat.one_mul] at this
    simpa using this
  rw [e3]
  have : d.natAbs = g * m.natAbs := by rw [hm, Int.natAbs_mul]; rfl
  rw [this]
  exact Nat.le_mul_of_pos_left _ (by omega)
theorem den_pos (q : Rat) : (0 : Int) < (q.den : Int) := by have := q.den_pos; omega
theorem den_ne (q : Rat) : (q.den : Int) ≠ 0 := by have := q.den_pos; omega
theorem add_eq (q r : Rat) : Rat.divInt (q.num * r.den + r.num * q.den) (q.den * r.den) = q + r := by
  rw [← Rat.divInt_add_divInt _ _ (den_ne q) (den_ne r), Rat.num_divInt_den, Rat.num_divInt_den]
theorem sub_eq (q r : Rat) : Rat.divInt (q.num * r.den - r.num * q.den) (q.den * r.den) = q - r := by
  rw [← Rat.divInt_sub_divInt _ _ (den_ne q) (den_ne r), Rat.num_divInt_den, Rat.num_divInt_den]
theorem mul_eq (q r : Rat) : Rat.divInt (q.num * r.num) (q.den * r.den) = q * r := by
  rw [← Rat.divInt_mul_divInt, Rat.num_divInt_den, Rat.num_divInt_den]
theorem div_eq (q r : Rat) : Rat.divInt (q.num * r.den) (q.den * r.num) = q / r := by
  rw [Rat.div_def, Rat.inv_def, ← Rat.divInt_mul_divInt, Rat.num_divInt_den]
theorem num_ne {r : Rat} (h : r ≠ 0) : r.num ≠ 0 := fun e => h (Rat.num_eq_zero.mp e)
theorem red (q : Rat) : Nat.gcd q.num.natAbs (q.den : Int).natAbs = 1 := by
  have := q.reduced
  simpa [Nat.Coprime] using this
/-- compare -/
def cmp (q r : Rat) : Int := if q = r then 0 else if r < q then 1 else -1
theorem cmp_eq (q r : Rat) : (if (q - r).num = 0 then (0 : Int) else if 0 < (q - r).num then 1 else -1) = cmp q r := by
  unfold cmp
  have e : (q - r).num = 0 ↔ q = r := by
    rw [Rat.num_eq_zero]
    constructor <;> intro h <;> grind
  by_cases h : q = r
  · rw [if_pos (e.mpr h), if_pos h]
  · rw [if_neg (fun z => h (e.mp z)), if_neg h]
    have e2 : 0 < (q - r).num ↔ r < q := by
      have h1 : (0 : Int) ≤ (q - r).num ↔ 0 ≤ q - r := Rat.num_nonneg
      have h2 : (q - r).num ≠ 0 := fun z => h (e.mp z)
      constructor
      · intro z
        have := h1.mp (by omega)
        grind
      · intro z
        have : 0 ≤ q - r := by grind
        have := h1.mpr this
        omega
    by_cases z : r < q
    · rw [if_pos z, if_pos (e2.mpr z)]
    · rw [if_neg z, if_neg (fun y => z (e2.mp y))]
/-! bounds by powers of two -/
theorem lt_pow_mul {a b m n : Nat} (ha : a < 2 ^ m) (hb : b < 2 ^ n) : a * b < 2 ^ (m + n) := by
  rw [Nat.pow_add]
  exact Nat.mul_lt_mul'' ha hb
theorem lt_pow_add {a b n : Nat} (ha : a < 2 ^ n) (hb : b < 2 ^ n) : a + b < 2 ^ (n + 1) := by
  rw [Nat.pow_succ]; omega
theorem lt_pow_mono {a m n : Nat} (h : m ≤ n) (ha : a < 2 ^ m) : a < 2 ^ n := Nat.lt_of_lt_of_le ha (Nat.pow_le_pow_right (by decide) h)
theorem abs_add_le (a b : Int) : (a + b).natAbs ≤ a.natAbs + b.natAbs := by omega
theorem abs_sub_le (a b : Int) : (a - b).natAbs ≤ a.natAbs + b.natAbs := by omega
/-- a fraction within b bits -/
def Bd (b : Nat) (q : Rat) : Prop := q.num.natAbs < 2 ^ b ∧ q.den < 2 ^ b
theorem Bd.mono {b c : Nat} {q : Rat} (h : b ≤ c) (x : Bd b q) : Bd c q := ⟨lt_pow_mono h x.1, lt_pow_mono h x.2⟩
theorem bd_divInt {n d : Int} {b : Nat} (hd : d ≠ 0) (hn : n.natAbs < 2 ^ b) (hb : d.natAbs < 2 ^ b) : Bd b (Rat.divInt n d) :=
  ⟨Nat.lt_of_le_of_lt (num_le n d hd) hn, Nat.lt_of_le_of_lt (den_le n d hd) hb⟩
theorem bn_mul {i j : Int} {a b : Nat} (ha : i.natAbs < 2 ^ a) (hb : j.natAbs < 2 ^ b) : (i * j).natAbs < 2 ^ (a + b) := by
  rw [Int.natAbs_mul]
  exact lt_pow_mul ha hb
theorem bn_add {i j : Int} {a : Nat} (ha : i.natAbs < 2 ^ a) (hb : j.natAbs < 2 ^ a) : (i + j).natAbs < 2 ^ (a + 1) :=
  Nat.lt_of_le_of_lt (abs_add_le i j) (lt_pow_add ha hb)
theorem bn_sub {i j : Int} {a : Nat} (ha : i.natAbs < 2 ^ a) (hb : j.natAbs < 2 ^ a) : (i - j).natAbs < 2 ^ (a + 1) :=
  Nat.lt_of_le_of_lt (abs_sub_le i j) (lt_pow_add ha hb)
theorem bd_den {q : Rat} {b : Nat} (x : Bd b q) : (q.den : Int).natAbs < 2 ^ b := by
  have := x.2
  simpa using this
/-! Euclid's steps end -/
def euc : Nat → Nat → Nat → Nat × Nat
  | 0, a, b => (a, b)
  | n + 1, a, b => euc n b (a % b)
theorem mod_half {a b : Nat} (hb : 0 < b) (h : b ≤ a) : 2 * (a % b) < a := by
  have h1 : a % b < b := Nat.mod_lt _ hb
  have h2 := Nat.div_add_mod a b
  have h3 : 1 ≤ a / b := Nat.div_pos h hb
  have h4 : b * 1 ≤ b * (a / b) := Nat.mul_le_mul_left b h3
  omega
/-- one step halves the product once b is at most a -/
theorem step_half {a b n : Nat} (hb : 0 < b) (h : b ≤ a) (hp : a * b < 2 ^ (n + 1)) : b * (a % b) < 2 ^ n := by
  have h1 := mod_half hb h
  have h2 : b * (2 * (a % b)) ≤ b * a := Nat.mul_le_mul_left b (Nat.le_of_lt h1)
  rw [Nat.pow_succ] at hp
  have h3 : b * (2 * (a % b)) = 2 * (b * (a % b)) := Nat.mul_left_comm _ _ _
  have h4 : b * a = a * b := Nat.mul_comm _ _
  omega
/-- where one is with n steps left: small enough to end -/
def EucEnds (n a b : Nat) : Prop := b = 0 ∨ (b ≤ a ∧ 1 ≤ n ∧ a * b < 2 ^ (n - 1)) ∨ (2 ≤ n ∧ a * b < 2 ^ (n - 2))
theorem EucEnds.step {n a b : Nat} (hb : b ≠ 0) (h : EucEnds (n + 1) a b) : EucEnds n b (a % b) := by
  have hb0 : 0 < b := Nat.pos_of_ne_zero hb
  have hlt : a % b < b := Nat.mod_lt _ hb0
  rcases h with h | ⟨h1, h2, h3⟩ | ⟨h2, h3⟩
  · exact absurd h hb
  · cases n with
    | zero =>
      have : a * b < 1 := h3
      have h5 : 0 < a * b := Nat.mul_pos (Nat.lt_of_lt_of_le hb0 h1) hb0
      omega
    | succ n =>
      refine .inr (.inl ⟨Nat.le_of_lt hlt, by omega, ?_⟩)
      exact step_half hb0 h1 h3
  · have h6 : b * (a % b) ≤ a * b := by
      rw [Nat.mul_comm]
      exact Nat.mul_le_mul_right b (Nat.mod_le a b)
    refine .inr (.inl ⟨Nat.le_of_lt hlt, by omega, ?_⟩)
    exact Nat.lt_of_le_of_lt h6 (by simpa using h3)
theorem EucEnds.zero {a b : Nat} (h : EucEnds 0 a b) : b = 0 := by
  rcases h with h | ⟨_, h, _⟩ | ⟨h, _⟩ <;> omega
theorem gcd_step {a b g : Nat} (h : Nat.gcd a b = g) : Nat.gcd b (a % b) = g := by
  rw [← h, Nat.gcd_comm a b, Nat.gcd_rec b a, Nat.gcd_comm]
theorem gcd_end {a g : Nat} (h : Nat.gcd a 0 = g) : a = g := by rw [← h, Nat.gcd_zero_right]
end Jf
set_option Elab.async false
set_option linter.all false
namespace Jf
theorem cmp_64 (q r : Rat) : (cmp q r).natAbs < 2 ^ 64 := by
  have : (cmp q r).natAbs ≤ 1 := by unfold cmp; split <;> (try split) <;> decide
  exact Nat.lt_of_le_of_lt this (by decide)
theorem cmp_anti (q r : Rat) : cmp q r = 0 - cmp r q := by unfold cmp; grind
theorem cmp_add (q r s : Rat) : cmp (q + s) (r + s) = cmp q r := by unfold cmp; grind
theorem cmp_sub (q r : Rat) : cmp (q - r) 0 = cmp q r := by unfold cmp; grind
theorem cmp_zero (q r : Rat) : cmp q r = 0 ↔ q = r := by unfold cmp; grind
theorem cmp_trans {q r s : Rat} (h1 : 0 ≤ cmp q r) (h2 : 0 ≤ cmp r s) : ¬ cmp q s < 0 := by unfold cmp at *; grind
theorem cmp_mul (q r s : Rat) : cmp (q * s) (r * s) = cmp q r * cmp s 0 := by
  unfold cmp
  by_cases h : q = r
  · subst h; simp
  · by_cases h0 : s = 0
    · subst h0; simp
    · have e1 : (q - r) * s ≠ 0 := by
        intro e
        rcases Rat.mul_eq_zero.mp e with e | e <;> grind
      have ne : ¬ q * s = r * s := by grind
      rw [if_neg ne, if_neg h, if_neg h0]
      by_cases hs : 0 < s
      · by_cases hq : r < q
        · have := Rat.mul_pos (show 0 < q - r by grind) hs
          grind
        · have := Rat.mul_pos (show 0 < r - q by grind) hs
          grind
      · by_cases hq : r < q
        · have := Rat.mul_pos (show 0 < q - r by grind) (show 0 < -s by grind)
          grind
        · have := Rat.mul_pos (show 0 < r - q by grind) (show 0 < -s by grind)
          grind
theorem six (q : Rat) : Rat.divInt (q.num * 6) (q.den * 6) = q := by
  rw [← Rat.divInt_mul_divInt, Rat.num_divInt_den, Rat.divInt_self' (by decide), Rat.mul_one]
theorem negs (q : Rat) : Rat.divInt (0 - q.num) (0 - q.den) = q := by
  rw [show 0 - q.num = q.num * (-1) by omega, show (0 : Int) - q.den = q.den * (-1) by omega, ← Rat.divInt_mul_divInt, Rat.num_divInt_den, Rat.divInt_self' (by decide), Rat.mul_one]
theorem r_assoc (a b c : Rat) : a + b + c = a + (b + c) := by grind
theorem r_massoc (a b c : Rat) : a * b * c = a * (b * c) := by grind
theorem r_dist (a b c : Rat) : a * (b + c) = a * b + a * c := by grind
theorem r_addsub (a b : Rat) : a + b - b = a := by grind
theorem r_subadd (a b : Rat) : a - b + b = a := by grind
theorem r_divmul (a b : Rat) (h : b ≠ 0) : a / b * b = a := by grind
theorem r_muldiv (a b : Rat) (h : b ≠ 0) : a * b / b = a := by grind
end Jf
set_option Elab.async false
set_option linter.all false
set_option maxRecDepth 100000
set_option maxHeartbeats 4000000
namespace Jf
open PySem PySem.Spec PyProof.Rows L2 Evl
/-- a def of the text behind the top -/
structure FT (K : PySem.W.Frag) (mg : Str → Option Value) (x : Str) (st : Stmt) (ps : List Str) where
  a : Addr
  fd : FuncData
  F : Fun K x x st a fd
  b : Binds K fd ps []
  g : mg x = some (.ref a)
/-- // by a divisor that is not 0, below 2 ^ 9000 in size -/
def CDivZ (_ j : Int) : Prop := j ≠ 0 ∧ j.natAbs.log2 < 9000
theorem op_fdivZ {X : Cx} : OpR X (binaryOp .FloorDiv) (rI CDivZ fun i j => .int (i.fdiv j)) := opI fun i j _ _ _ _ _ hc q =>
  floordiv_int hc.1 q (.inl (PyProof.noPylong_of_log2 hc.2))
theorem log_lt {j : Nat} {b c : Nat} (h : j < 2 ^ b) (hc : b ≤ c) (h0 : 0 < c) : j.log2 < c :=
  Nat.lt_of_lt_of_le (PySem.Flt.log2_lt_of h0 (lt_pow_mono hc h)) (Nat.le_refl _)
theorem mulW {i j : Int} {a b : Nat} (ha : i.natAbs < 2 ^ a) (hb : j.natAbs < 2 ^ b) (h : a + b ≤ 900000) : CMulW i j :=
  wide_mul (lt_pow_mono (Nat.le_succ a) ha) (lt_pow_mono (Nat.le_succ b) hb) (Nat.succ_pos _) (Nat.succ_pos _) (by omega)

/-! ### what evaluates to a value of a kind -/
def EvP (te : TE) (σ : L2.St) (H : Hp) (P : V → Hp → Prop) : Prop := ∀ H1, Ex H H1 → ∀ Q : VK, (∀ v H2, Ex H1 H2 → P v H2 → Q v H2) → te σ H1 Q
/-- a fraction of at most b bits stands at v -/
def Fr (K : PySem.W.Frag) (b : Nat) (q : Rat) (v : V) (H : Hp) : Prop := ∃ p, v = .ref p ∧ SqT K H p [.int q.num, .int (q.den : Int)] ∧ Bd b q
section
variable {K : PySem.W.Frag} {σ : L2.St} {H H' : Hp} {te ta tb : TE} {P : V → Hp → Prop} {v : V} {b c n : Nat} {q r : Rat}
theorem Fr.ex (e : Ex H H') (h : Fr K b q v H) : Fr K b q v H' := by
  obtain ⟨p, rfl, h, x⟩ := h
  exact ⟨p, rfl, ex_t e h, x⟩
theorem Fr.mono (e : b ≤ c) (h : Fr K b q v H) : Fr K c q v H := by
  obtain ⟨p, rfl, h, x⟩ := h
  exact ⟨p, rfl, h, x.mono e⟩
theorem Fr.bd (h : Fr K b q v H) : Bd b q := h.choose_spec.2.2
theorem EvP.mono (e : Ex H H') (h : EvP te σ H P) : EvP te σ H' P := fun H1 a Q q => h H1 (e.trans a) Q q
theorem ep_var {i : Nat} (h : σ[i]? = some (some v)) (hf : Fr K b q v H) : EvP (tVar i) σ H (Fr K b q) := fun H1 e _ k => ⟨v, h, k v H1 (Ex.refl H1) (hf.ex e)⟩
theorem ep_mono (h : EvP te σ H (Fr K b q)) (e : b ≤ c) : EvP te σ H (Fr K c q) := fun H1 a Q k => h H1 a Q fun v H2 e2 f => k v H2 e2 (f.mono e)
theorem ep_is (h : EvP te σ H (Fr K b q)) (e : q = r) : EvP te σ H (Fr K b r) := e ▸ h
theorem ev_0 (h : EvP te σ H (Fr K b q)) : Ev (tOp (rIxT K) te (tC (.int 0))) σ H (.int q.num) := fun H1 a Q k => h H1 a _ fun v H2 e2 f => by
  obtain ⟨p, rfl, f, _⟩ := f
  exact ⟨p, _, 0, .int q.num, rfl, rfl, f, rfl, k H2 e2⟩
theorem ev_1 (h : EvP te σ H (Fr K b q)) : Ev (tOp (rIxT K) te (tC (.int 1))) σ H (.int (q.den : Int)) := fun H1 a Q k => h H1 a _ fun v H2 e2 f => by
  obtain ⟨p, rfl, f, _⟩ := f
  exact ⟨p, _, 1, .int (q.den : Int), rfl, rfl, f, rfl, k H2 e2⟩
/-- a new pair of ints that are a fraction's -/
theorem ep_tup {x y : Int} (ha : Ev ta σ H (.int x)) (hb : Ev tb σ H (.int y)) (e1 : x = q.num) (e2 : y = (q.den : Int)) (bd : Bd b q) : EvP (tTup (tCons ta (tCons tb tNil))) σ H (Fr K b q) := fun H1 a Q k =>
  ha H1 a _ fun H2 a2 => hb H2 (a.trans a2) _ fun H3 a3 => ⟨by show 2 ≤ sizeLine; decide, fun p hp => k _ _ ((a2.trans a3).trans (Ex.new hp)) ⟨p, rfl, by subst e1 e2; exact SqT.of upd_same, bd⟩⟩
theorem ev_mulW {x y : Int} (ha : Ev ta σ H (.int x)) (hb : Ev tb σ H (.int y)) (h : CMulW x y) : Ev (tOp (rI CMulW fun i j => .int (i * j)) ta tb) σ H (.int (x * y)) := ev_op ha hb (rv_I h)
theorem ev_add {x y : Int} (ha : Ev ta σ H (.int x)) (hb : Ev tb σ H (.int y)) : Ev (tOp (rI0 fun i j => .int (i + j)) ta tb) σ H (.int (x + y)) := ev_op ha hb rv_I0
theorem ev_sub {x y : Int} (ha : Ev ta σ H (.int x)) (hb : Ev tb σ H (.int y)) : Ev (tOp (rI0 fun i j => .int (i - j)) ta tb) σ H (.int (x - y)) := ev_op ha hb rv_I0
theorem ev_fdivZ {x y : Int} (ha : Ev ta σ H (.int x)) (hb : Ev tb σ H (.int y)) (h : CDivZ x y) : Ev (tOp (rI CDivZ fun i j => .int (i.fdiv j)) ta tb) σ H (.int (x.fdiv y)) := ev_op ha hb (rv_I h)
theorem ev_neg {x : Int} (ha : Ev ta σ H (.int x)) : Ev (tUn (rU fun i => .int (-i)) ta) σ H (.int (-x)) := ev_un ha ru_neg
theorem s_retP {D : Ends} (h : EvP te σ H P) (k : ∀ v H1, Ex H H1 → P v H1 → D.rt v H1) : tRet te D σ H := h H (Ex.refl H) _ k
theorem s_asgP {D : Ends} {i : Nat} (h : EvP te σ H P) (k : ∀ v H1, Ex H H1 → P v H1 → D.nx (σ.set i (some v)) H1) : tAsg te (gName i) D σ H := h H (Ex.refl H) _ k
theorem s_dropP {D : Ends} (h : EvP te σ H P) (k : ∀ v H1, Ex H H1 → P v H1 → D.nx σ H1) : tDrop te D σ H := h H (Ex.refl H) _ k

/-! ### deep equality of two fractions -/
theorem Fr.dp (h : Fr K b q v H) : Dp K H v (.tuple [.int q.num, .int (q.den : Int)]) := by
  obtain ⟨p, rfl, h, _⟩ := h
  exact .tup h (.cons (.int _) (.cons (.int _) .nil))
theorem eqv_fr (q r : Rat) : PyData.eqv (.tuple [.int q.num, .int (q.den : Int)]) (.tuple [.int r.num, .int (r.den : Int)]) = decide (q = r) := by
  simp only [PyData.eqv, PyData.eqvAll, Bool.and_true]
  have e : q = r ↔ q.num = r.num ∧ (q.den : Int) = (r.den : Int) := by
    constructor
    · rintro rfl
      exact ⟨rfl, rfl⟩
    · rintro ⟨h1, h2⟩
      exact Rat.ext h1 (by omega)
  rw [Bool.eq_iff_iff]
  simp [e]
theorem ev_neD (ha : EvP ta σ H (Fr K b q)) (hb : EvP tb σ H (Fr K c r)) : Ev (tOp (rNeD K) ta tb) σ H (.bl (!decide (q = r))) := fun H1 a Q k =>
  ha H1 a _ fun x H2 a2 f => hb H2 (a.trans a2) _ fun y H3 a3 g => ⟨_, _, (f.ex a3).dp, g.dp, rfl, rfl, by
    rw [eqv_fr]
    exact k H3 (a2.trans a3)⟩
theorem ev_eqD (ha : EvP ta σ H (Fr K b q)) (hb : EvP tb σ H (Fr K c r)) : Ev (tOp (rEqD K) ta tb) σ H (.bl (decide (q = r))) := fun H1 a Q k =>
  ha H1 a _ fun x H2 a2 f => hb H2 (a.trans a2) _ fun y H3 a3 g => ⟨_, _, (f.ex a3).dp, g.dp, rfl, rfl, by
    rw [eqv_fr]
    exact k H3 (a2.trans a3)⟩

/-! ### a def of two fractions -/
/-- op q r, of b + c + 1 bits at most -/
def sp2 (K : PySem.W.Frag) (ok : Rat → Prop) (f : Rat → Rat → Rat) : Sp := fun vs H Q _ => ∃ (u v : V) (b c : Nat) (q r : Rat), vs = [u, v] ∧ Fr K b q u H ∧ Fr K c r v H ∧ b + c + 1 ≤ 8000 ∧ ok r ∧
  ∀ z H', Ex H H' → Fr K (b + c + 1) (f q r) z H' → Q z H'
theorem ep_2 {ok : Rat → Prop} {f : Rat → Rat → Rat} {E : XK} (ha : EvP ta σ H (Fr K b q)) (hb : EvP tb σ H (Fr K c r)) (hk : ok r) (hl : b + c + 1 ≤ 8000) (hn : b + c + 1 = n) : EvP (tCall (sp2 K ok f) [] E (tCons ta (tCons tb tNil))) σ H (Fr K n (f q r)) := fun H1 a Q k =>
  ha H1 a _ fun x H2 a2 g => hb H2 (a.trans a2) _ fun y H3 a3 h => ⟨x, y, b, c, q, r, rfl, g.ex a3, h, hl, hk, fun z H' e w => k z H' ((a2.trans a3).trans e) (by subst hn; exact w)⟩
/-- compare -/
def spC (K : PySem.W.Frag) : Sp := fun vs H Q _ => ∃ (u v : V) (b c : Nat) (q r : Rat), vs = [u, v] ∧ Fr K b q u H ∧ Fr K c r v H ∧ b + c + 1 ≤ 8000 ∧ ∀ H', Ex H H' → Q (.int (cmp q r)) H'
theorem ev_C {E : XK} (ha : EvP ta σ H (Fr K b q)) (hb : EvP tb σ H (Fr K c r)) (hl : b + c + 1 ≤ 8000) : Ev (tCall (spC K) [] E (tCons ta (tCons tb tNil))) σ H (.int (cmp q r)) := fun H1 a Q k =>
  ha H1 a _ fun x H2 a2 g => hb H2 (a.trans a2) _ fun y H3 a3 h => ⟨x, y, b, c, q, r, rfl, g.ex a3, h, hl, fun H' e => k H' ((a2.trans a3).trans e)⟩
/-- is_fraction of a fraction; require_fraction of one -/
def spIs (K : PySem.W.Frag) (x : V) : Sp := fun vs H Q _ => ∃ (u : V) (b : Nat) (q : Rat), vs = [u] ∧ Fr K b q u H ∧ ∀ H', Ex H H' → Q x H'
theorem ev_Is {E : XK} {x : V} (ha : EvP ta σ H (Fr K b q)) : Ev (tCall (spIs K x) [] E (tCons ta tNil)) σ H x := fun H1 a Q k =>
  ha H1 a _ fun u H2 a2 g => ⟨u, b, q, rfl, g, fun H' e => k H' (a2.trans e)⟩
/-- lowest, fraction of two ints -/
def spLow (K : PySem.W.Frag) : Sp := fun vs H Q _ => ∃ (n d : Int) (b : Nat), vs = [.int n, .int d] ∧ d ≠ 0 ∧ n.natAbs < 2 ^ b ∧ d.natAbs < 2 ^ b ∧ b ≤ 8000 ∧ ∀ z H', Ex H H' → Fr K b (Rat.divInt n d) z H' → Q z H'
theorem ep_Low {E : XK} {x y : Int} (ha : Ev ta σ H (.int x)) (hb : Ev tb σ H (.int y)) (hd : y ≠ 0) (hx : x.natAbs < 2 ^ b) (hy : y.natAbs < 2 ^ b) (hl : b ≤ 8000) (hq : Rat.divInt x y = q) : EvP (tCall (spLow K) [] E (tCons ta (tCons tb tNil))) σ H (Fr K b q) := fun H1 a Q k =>
  ha H1 a _ fun H2 a2 => hb H2 (a.trans a2) _ fun H3 a3 => ⟨x, y, b, rfl, hd, hx, hy, hl, fun z H' e w => k z H' ((a2.trans a3).trans e) (by subst hq; exact w)⟩
/-- of any int whether it is one; require_whole -/
def spWhole (x : V) : Sp := fun vs H Q _ => ∃ n : Int, vs = [.int n] ∧ ∀ H', Ex H H' → Q x H'
theorem ev_Whole {E : XK} {x : V} {n : Int} (ha : Ev ta σ H (.int n)) : Ev (tCall (spWhole x) [] E (tCons ta tNil)) σ H x := fun H1 a Q k =>
  ha H1 a _ fun H2 a2 => ⟨n, rfl, fun H' e => k H' (a2.trans e)⟩
end
end Jf
set_option Elab.async false
set_option linter.all false
set_option maxRecDepth 100000
set_option maxHeartbeats 4000000
namespace Jf
open PySem PySem.Spec PyProof.Rows L2 Evl
/-! ### defs that show data: no list or tuple is being shown when they are called -/
structure FnG (P : Program) (w : World) (K : PySem.W.Frag) (mg : Str → Option Value) (base : Heap) (k : Nat) (f : Addr) (fd : FuncData) (ps : List Str) (sp : Sp) : Prop where
  size : ∀ vs H Q E, sp vs H Q E → vs.length = ps.length
  go : ∀ (A : Around) (outer : List Env) (s : Shared) (H : Hp) (args : Args) (us : List Value) (vs : List V) (Q : VK), A.guards = some [] → Room k A →
    Env0 P w K mg base A outer s H → BindsTo s fd args (ps.zip us) → Vals vs us → sp vs H Q E0 → codeAny (model P w) A (.call (.ref f) args) (CR CX0 outer P w H s Q E0) s
section
variable {X : Cx} {k : Nat} {f : Addr} {fd : FuncData} {ps : List Str} {sp : Sp} {x : Str} {p pos : Pos} {e : Expr} {es : List Expr} {t : TA}
/-- f(e, ..) of such a def -/
theorem pe_callG (F : FnG X.prog X.w X.K X.mg X.base k f fd ps sp) (gd : X.A.guards = some []) (hr : Room k X.A) (hg : Gl X x) (hm : X.mg x = some (.ref f)) (hk : PySem.W.keepIn X.K (.ref f) = true) (hb : Binds X.K fd ps [])
    (ha : PA X (e :: es) t) (hdb : (x == ("__debug__" : Str)) = false := by decide)
    (he : starEach (e :: es) X.env = (false, eval e X.env) :: starEach es X.env := by rfl)
    (hpl : (backTo pos (starEach es X.env)).any (·.1) = false := by rfl) : PE X (.Call (.Name x p) (e :: es) [] pos) (tCall sp [] E0 t) := by
  constructor
  intro pins s σ H Q I h
  apply wpAny_Call_Name_kw
  apply ld_glob I hg hm _ hdb
  apply PySem.W.callWith_K (h₀ := X.base) I.ok.mod.kin hk _ he hpl
  apply thn (ha.run pos pins s σ H _ I h)
  rintro us s1 ⟨vs, H1, I1, r, q⟩
  refine ⟨I1.kIn, ?_⟩
  have q' : sp vs H1 Q E0 := by
    have z := q
    rw [List.append_nil] at z
    exact z
  have hz : us.length = ps.length := r.length ▸ F.size _ _ _ _ q'
  have bt := hb s1 us I1.kIn (by simpa using hz)
  rw [List.append_nil] at bt
  apply wpAny_call
  apply codeAny_mono (F.go X.A X.stack s1 H1 ⟨us, []⟩ us vs Q gd hr I1.env0 bt r q')
  intro res s' hq
  match res, hq with
  | .ok (.ret u), hq => exact I1.after hq
  | .error _, hq => exact False.elim hq
end
section
variable {P : Program} {w : World} {K : PySem.W.Frag} {mg : Str → Option Value} {base : Heap}
/-- such a def, by its body -/
theorem okG {x qual : Str} {st : Stmt} {f : Addr} {fd : FuncData} {N ps : List Str} {k : Nat} {sp : Sp} (F : Fun K x qual st f fd) (S : FnScope N ps (defScope st)) (len : ∀ vs H Q E, sp vs H Q E → vs.length = ps.length)
    (body : ∀ (cdv : Value) (A : Around) (outer : List Env) (s : Shared) (H : Hp) (vs : List V) (Q : VK), A.guards = some [] → Room k (A.deeper (envOfC qual (defScope st) s.heap.objs.size f cdv)) → sp vs H Q E0 →
      ∃ t, PSs (cxOf CX0 P w K mg base N qual (defScope st) f cdv A outer s H E0).nox (defBody st) t ∧ t { nx := fun _ H' => Q .non H', rt := Q } (start N vs) H) :
    FnG P w K mg base (k + 1) f fd ps sp := by
  obtain ⟨oc, od, kV, doc, pm, an, cdv, ct, osl, rfl, lk, hcd⟩ := F.ex
  constructor
  · exact len
  intro A outer s H args us vs Q gd hr e0 hb r hsp
  have here : ∀ b o, base.get? b = some o → s.heap.get? b = some o := fun b o e => (e0.bs b o e).1
  have KX : K.In s.heap := e0.mod.kin.keeps here
  have par : ∀ y ∈ ps.zip us, (defScope st).names.lookup y.1 = some .local ∨ ((defScope st).names.lookup y.1 = some .cell ∧ ((cellsFrom (s.heap.objs.size + 1) (defScope st).names []).lookup y.1).isSome = true) := by
    rintro ⟨n, v⟩ hy
    have q := S.par n (List.of_mem_zip hy).1
    exact q.imp id fun z => ⟨z, PySem.W.cellsFrom_some _ _ _ (.inl z)⟩
  apply codeAny_call_function hr.depth (KX _ _ lk) rfl S.co S.gen rfl (PySem.W.codeRec_of KX hcd)
  apply hb
  apply wpAny_newFunctionEnv_cells S.kind par
  intro env he s1 ic
  subst he
  refine ⟨(e0.mod.nolimit.keeps here).keeps ic.toInCall.keep, codeAny_func ?_⟩
  obtain ⟨t, ht, hq⟩ := body cdv A outer s H vs Q gd (hr.deeper _) hsp
  have I0 := inv_start (CX := CX0) (E := E0) S hr.hd e0 (len _ _ _ _ hsp) r ic
  apply wpAny_mono (ht.nox.run [] s1 (start N vs) H _ I0 hq)
  · intro fl s' hs
    match fl, hs with
    | .ret u, ⟨v, σ', H', J, rv, q⟩ => exact ⟨v, H', J.os, J.bare, J.base, J.hok, rv, q⟩
    | .next, ⟨σ', H', J, q⟩ => exact ⟨V.non, H', J.os, J.bare, J.base, J.hok, rfl, q⟩
    | .brk, ⟨_, _, _, q⟩ => exact False.elim q
    | .cont, ⟨_, _, _, q⟩ => exact False.elim q
  · intro e s' hs
    exact hs
end
/-! ### isinstance of the error that a suite holds, its own dict read -/
/-- what its class must say -/
structure ErrC (K : PySem.W.Frag) (C : Addr) : Prop where
  cl : (PySem.W.clsIn K C).isSome = true
  ga : PySem.W.findIn K (.ref C) "__getattribute__" = some (some (.builtin "BaseException.__getattribute__"))
  gg : PySem.W.findIn K (.ref C) "__getattr__" = some none
  ex : PySem.W.subIn K (.ref C) (.type "BaseException") = some true
  hd : PySem.W.hasDictIn K C = true
  kc : PySem.W.findIn K (.ref C) "__class__" = some (some (.builtin "object.__class__"))
  sp : PySem.W.specialIn K (.builtin "object.__class__") "__get__" = some (some (.builtin "getset_descriptor.__get__"))
  tk : PySem.W.takesIn K (.builtin "object.__class__") = some true
  mo : PySem.W.mroIn K C (.type "object") = some true
def rIsD (K : PySem.W.Frag) (a : Addr) (cls : Value) (d : Option Addr) : List V → Hp → VK → Prop := fun xs H Q => ∃ (C B dd : Addr) (fs : List (Str × V)) (b : Bool), xs = [.ref a, .ref B] ∧ cls = .ref C ∧ ErrC K C ∧ d = some dd ∧ H dd = some (.xd fs) ∧ PySem.W.kitOne K (.ref C) (.ref B) = some b ∧ Q (.bl b) H
theorem call_isD {X : Cx} {a : Addr} {oe : Obj} {cls : Value} {d : Option Addr} {pn : List (Addr × Obj)} (hz : Zc cls d oe) (hf : ∃ vs, oe.data = .fields vs) : CallR (X.suite a ((a, oe) :: pn)) (.builtin "isinstance") (rIsD X.K a cls d) := by
  intro pins s σ H xs us Q I r h
  obtain ⟨C, B, dd, fs, b, rfl, rfl, T, rfl, ed, hk, q⟩ := h
  cases r with
  | cons rx rr =>
    cases rr with
    | cons rt rr =>
      cases rr
      cases rx
      cases rt
      have hget := (I.pin (a, oe) (List.mem_append_left _ List.mem_cons_self)).1
      obtain ⟨vs, hv⟩ := hf
      have hx : ObjOk X.prog X.w H s.heap dd (.xd fs) := I.hok dd _ ed
      obtain ⟨mA, hns, _⟩ := hx
      obtain ⟨od, ho, _⟩ := lookIn_ns hns
      have J : PySem.W.InstAt s.heap a oe C (some od) := by
        refine ⟨hget, hz.1, ?_, ?_⟩
        · unfold PySem.W.notCls
          rw [hv] <;> rfl
        · rw [hz.2]
          exact ho
      refine PySem.W.kia_one (PySem.W.kitx_exc T.cl T.ga T.gg T.ex T.kc T.sp T.tk T.mo) I.kIn J hk (fun z => nomatch z) ?_
      intro tk
      exact ⟨.bl b, H, I.kept (t' := tk) fun _ _ z => z, rfl, q⟩
/-! ### repr -/
/-- a list that is written out: it isn't at sys.modules -/
def tLstN (t : TA) : TE := fun σ H Q => t σ H fun xs H1 => xs.length ≤ sizeLine ∧ ∀ p, H1 p = none → p ≠ sysModules → Q (.ref p) (upd H1 p (.lst xs))
theorem pe_lstN {X : Cx} {es : List Expr} {t : TA} {pos : Pos} (h : PA X es t) : PE X (.List es pos) (tLstN t) := by
  constructor
  intro pins s σ H Q I want
  apply wpAny_List_spliced
  apply thn (h.run pos pins s σ H _ I want)
  rintro us s1 ⟨xs, H1, I1, vals, len, k⟩
  have free : H1 s1.heap.objs.size = none := I1.hok.fresh (Nat.le_refl _)
  refine ⟨vals.length ▸ len, .ref _, upd H1 _ (.lst xs), I1.laid (t' := s1.toks) (fun _ _ e => Heap.get?_push_of_some _ e) (Nat.le_refl _) ⟨len, us, 0, vals, Heap.get?_push_size _ rfl⟩, rfl, ?_⟩
  exact k _ free (Nat.ne_of_gt I1.big)
mutual
/-- data at a value: lists that are tracked (and are not what stands at p), tuples, the empty dict -/
inductive Dq (K : PySem.W.Frag) (p : Addr) (H : Hp) : V → PyData → Prop
  | non : Dq K p H .non .none
  | bl (b : Bool) : Dq K p H (.bl b) (.bool b)
  | int (i : Int) : Dq K p H (.int i) (.int i)
  | str (x : Str) : Dq K p H (.str x) (.str x)
  | lst {a : Addr} {xs : List V} {ds : List PyData} : a ≠ p → a ≠ sysModules → H a = some (.lst xs) → DqAll K p H xs ds → Dq K p H (.ref a) (.list ds)
  | tup {a : Addr} {xs : List V} {ds : List PyData} : SqT K H a xs → DqAll K p H xs ds → Dq K p H (.ref a) (.tuple ds)
  | emp {a : Addr} : H a = some (.dK []) → Dq K p H (.ref a) (.dict [])
inductive DqAll (K : PySem.W.Frag) (p : Addr) (H : Hp) : List V → List PyData → Prop
  | nil : DqAll K p H [] []
  | cons {v : V} {vs : List V} {d : PyData} {ds : List PyData} : Dq K p H v d → DqAll K p H vs ds → DqAll K p H (v :: vs) (d :: ds)
end
mutual
theorem Dq.ex {K : PySem.W.Frag} {p : Addr} {H H' : Hp} (e : Ex H H') : ∀ (d : PyData) (v : V), Dq K p H v d → Dq K p H' v d
  | _, _, .non => .non
  | _, _, .bl b => .bl b
  | _, _, .int i => .int i
  | _, _, .str x => .str x
  | _, _, .lst n m h hs => .lst n m (e _ _ h) (DqAll.ex e _ _ hs)
  | _, _, .tup h hs => .tup (ex_t e h) (DqAll.ex e _ _ hs)
  | _, _, .emp h => .emp (e _ _ h)
theorem DqAll.ex {K : PySem.W.Frag} {p : Addr} {H H' : Hp} (e : Ex H H') : ∀ (ds : List PyData) (vs : List V), DqAll K p H vs ds → DqAll K p H' vs ds
  | _, _, .nil => .nil
  | _, _, .cons h hs => .cons (Dq.ex e _ _ h) (DqAll.ex e _ _ hs)
end
section
variable {X : Cx} {pins : List (Addr × Obj)} {σ : L2.St} {H : Hp} {s : Shared}
mutual
theorem Dq.reads {p : Addr} (I : Inv X pins σ H s) : ∀ (d : PyData) (v : V) (u : Value), Dq X.K p H v d → RelV v u → ∃ as, Reads s.heap u d as ∧ sysModules ∉ as
  | _, _, u, .non, r => by
    cases (show u = Value.none from r)
    exact ⟨_, .none, by simp⟩
  | _, _, u, .bl b, r => by
    cases (show u = Value.bool b from r)
    exact ⟨_, .bool b, by simp⟩
  | _, _, u, .int i, r => by
    obtain ⟨t, q⟩ := (show ∃ t, u = Value.int i t from r)
    cases q
    exact ⟨_, .int i t, by simp⟩
  | _, _, u, .str x, r => by
    obtain ⟨t, q⟩ := (show ∃ t, u = Value.str x t from r)
    cases q
    exact ⟨_, .str x t, by simp⟩
  | _, _, u, .lst (a := a) _ m h hs, r => by
    cases (show u = Value.ref a from r)
    have hx : ObjOk X.prog X.w H s.heap a (.lst _) := I.hok a _ h
    obtain ⟨_, its, n, rv, e⟩ := hx
    obtain ⟨as, q, nm⟩ := DqAll.reads I _ _ _ hs rv
    exact ⟨_, .list e rfl rfl (by simpa using q), by
      simp only [List.mem_cons, not_or]
      exact ⟨m.symm, nm⟩⟩
  | _, _, u, .tup (a := a) h hs, r => by
    cases (show u = Value.ref a from r)
    obtain ⟨its, rv, ⟨o, e, c, n, dd⟩, _⟩ := I.tuple h
    obtain ⟨as, q, nm⟩ := DqAll.reads I _ _ _ hs rv
    exact ⟨_, .tuple e c dd (by simpa using q), nm⟩
  | _, _, u, .emp (a := a) h, r => by
    cases (show u = Value.ref a from r)
    obtain ⟨_, nsm, vs, kv, o, es, ep, e, x, dd, _, pr, _⟩ := dk_of I.hok h
    cases kv
    have e0 : es.toList = [] := by
      cases hh : es.toList with
      | nil => rfl
      | cons y ys =>
        rw [hh] at pr
        cases pr
    exact ⟨_, .dict (as := []) (bs := []) e x.1 dd (by rw [e0]; exact .nil) (by rw [e0]; exact .nil), by
      have := (beq_eq_false_iff_ne.mp nsm).symm
      simpa using this⟩
theorem DqAll.reads {p : Addr} (I : Inv X pins σ H s) : ∀ (ds : List PyData) (vs : List V) (us : List Value), DqAll X.K p H vs ds → Vals vs us → ∃ as, ReadsAll s.heap us ds as ∧ sysModules ∉ as
  | _, _, us, .nil, r => by
    cases r
    exact ⟨_, .nil, by simp⟩
  | _, _, us, .cons h hs, r => by
    cases r with
    | cons r1 r2 =>
      obtain ⟨as, q1, n1⟩ := Dq.reads I _ _ _ h r1
      obtain ⟨bs, q2, n2⟩ := DqAll.reads I _ _ _ hs r2
      exact ⟨_, .cons q1 q2, by
        simp only [List.mem_append, not_or]
        exact ⟨n1, n2⟩⟩
end
end
mutual
theorem Dp.nd {K : PySem.W.Frag} {H : Hp} : ∀ (d : PyData) (v : V), Dp K H v d → d.hasDict = false
  | _, _, .non => rfl
  | _, _, .bl _ => rfl
  | _, _, .int _ => rfl
  | _, _, .str _ => rfl
  | _, _, .lst _ hs => by simp only [PyData.hasDict]; exact DpAll.nd _ _ hs
  | _, _, .tup _ hs => by simp only [PyData.hasDict]; exact DpAll.nd _ _ hs
theorem DpAll.nd {K : PySem.W.Frag} {H : Hp} : ∀ (ds : List PyData) (vs : List V), DpAll K H vs ds → PyData.hasDictAll ds = false
  | _, _, .nil => rfl
  | _, _, .cons h hs => by simp only [PyData.hasDictAll, Dp.nd _ _ h, DpAll.nd _ _ hs, Bool.or_false]
end
def rRepr (K : PySem.W.Frag) : List V → Hp → VK → Prop := fun xs H Q => ∃ (x : V) (d : PyData) (p : Addr), xs = [x] ∧ (Dq K p H x d ∨ Dp K H x d) ∧ d.showable = true ∧ d.depth ≤ 60 ∧ d.shown.length ≤ sizeLine ∧ Q (.str d.shown) H
section
variable {X : Cx}
theorem call_repr (gd : X.A.guards = some []) (hu : X.A.units + 64 < cLine) : CallR X (.builtin "repr") (rRepr X.K) := by
  intro pins s σ H xs us Q I r h
  obtain ⟨x, d, p, rfl, hd, hs, hdep, hz, q⟩ := h
  cases r with
  | cons r1 r2 =>
    cases r2
    rename_i u
    obtain ⟨as, hr, nm⟩ : ∃ as, Reads s.heap u d as ∧ (d.hasDict = true → sysModules ∉ as) := by
      rcases hd with hd | hd
      · obtain ⟨as, hr, nm⟩ := Dq.reads I d x u hd r1
        exact ⟨as, hr, fun _ => nm⟩
      · obtain ⟨as, hr⟩ := Dp.reads I d x u hd r1
        exact ⟨as, hr, fun z => by rw [Dp.nd d x hd] at z; cases z⟩
    have fin : ∀ h' u' tk, (∀ b o, s.heap.get? b = some o → h'.get? b = some o) → EP X pins σ Q (.str d.shown u') { s with heap := h', toks := tk } := fun h' u' tk hk => ⟨.str d.shown, H, I.kept hk, ⟨_, rfl⟩, q⟩
    have f0 := fin s.heap s.toks (s.toks + 1) (fun _ _ z => z)
    cases hr with
    | none => exact PySem.P.repr_of_none (by simpa [PyData.shown] using f0)
    | bool b => exact PySem.P.repr_of_bool (by simpa [PyData.shown] using f0)
    | int i t => exact PySem.P.repr_of_int (by simpa [PyData.showable] using hs) (by simpa [PyData.shown] using f0)
    | str y t => exact PySem.P.repr_of_str (by simpa [PyData.shown] using f0) (by simpa [PyData.shown] using hz)
    | list h1 h2 h3 h4 => exact repr_of_reads' (.list h1 h2 h3 h4) hs nm gd (by omega) (fun _ _ z => z) (fun h' u' tk hk => fin h' u' tk hk) hz
    | tuple h1 h2 h3 h4 => exact repr_of_reads' (.tuple h1 h2 h3 h4) hs nm gd (by omega) (fun _ _ z => z) (fun h' u' tk hk => fin h' u' tk hk) hz
    | dict h1 h2 h3 h4 h5 => exact repr_of_reads' (.dict h1 h2 h3 h4 h5) hs nm gd (by omega) (fun _ _ z => z) (fun h' u' tk hk => fin h' u' tk hk) hz
end
end Jf
set_option Elab.async false
set_option linter.all false
set_option maxRecDepth 100000
set_option maxHeartbeats 4000000
namespace Jf
open PySem PySem.Spec PyProof.Rows L2 Evl
/-! ### how long shown data is -/
def lens : List Str → Nat
  | [] => 0
  | t :: ts => t.length + 2 + lens ts
theorem textFrom_le : ∀ (ts : List Str) (k : Nat) (acc : Str), (textFrom k acc ts).length ≤ acc.length + lens ts
  | [], _, acc => by simp [textFrom, lens]
  | t :: ts, k, acc => by
    have h := textFrom_le ts (k + 1) (acc ++ (if k > 0 then ", " else "" : String) ++ t)
    have e : ((if k > 0 then ", " else "" : String) : Str).length ≤ 2 := by
      by_cases z : k > 0
      · rw [if_pos z]; decide
      · rw [if_neg z]; decide
    simp only [textFrom, lens, Str.length_append] at h ⊢
    omega
theorem join_le : ∀ ts : List Str, (Str.join ", " ts).length ≤ lens ts
  | [] => by simp only [Str.join, lens]; decide
  | [x] => by simp only [Str.join, lens]; omega
  | x :: y :: r => by
    have h := join_le (y :: r)
    have e : ((", " : String) : Str).length = 2 := by decide
    simp only [Str.join, lens, Str.length_append] at h ⊢
    omega
mutual
def cost : PyData → Nat
  | .none => 4
  | .bool _ => 5
  | .int i => i.natAbs.log2 + 3
  | .str x => (reprText x).length
  | .list xs => costAll xs + 4
  | .tuple xs => costAll xs + 4
  | .dict [] => 2
  | .dict (_ :: _) => 100000000
def costAll : List PyData → Nat
  | [] => 0
  | x :: xs => cost x + 2 + costAll xs
end
mutual
theorem shown_le : ∀ d : PyData, cost d < 100000000 → d.shown.length ≤ cost d
  | .none, _ => by simp only [PyData.shown, cost]; decide
  | .bool b, _ => by cases b <;> (simp only [PyData.shown, cost]; decide)
  | .int i, _ => by
    simp only [PyData.shown, cost]
    have h := int_text_length_le (a := i) (k := i.natAbs.log2 + 1) (by omega) (by omega)
    show (Str.ofString (toString i)).length ≤ _
    rw [PySem.ofString_length]
    omega
  | .str x, _ => by simp only [PyData.shown, cost]; omega
  | .list xs, h => by
    simp only [cost] at h
    have := shownAll_le xs (by omega)
    have z := textFrom_le (PyData.shownAll xs) 0 (Str.ofString "[")
    have e : (Str.ofString "[").length = 1 := by decide
    have e2 : (Str.ofString "]").length = 1 := by decide
    simp only [PyData.shown, cost, listText, Str.length_append] at z ⊢
    omega
  | .tuple xs, h => by
    simp only [cost] at h
    have := shownAll_le xs (by omega)
    have z := join_le (PyData.shownAll xs)
    have e : (Str.ofString "(").length = 1 := by decide
    have e2 : ((if (PyData.shownAll xs).length == 1 then ",)" else ")" : String) : Str).length ≤ 2 := by
      by_cases q : ((PyData.shownAll xs).length == 1) = true
      · rw [if_pos q]; decide
      · rw [if_neg q]; decide
    simp only [PyData.shown, cost, tupleText, Str.length_append] at z ⊢
    omega
  | .dict [], _ => by simp only [PyData.shown, PyData.shownKv, cost]; decide
  | .dict (_ :: _), h => by simp only [cost] at h; omega
theorem shownAll_le : ∀ ds : List PyData, costAll ds < 100000000 → lens (PyData.shownAll ds) ≤ costAll ds
  | [], _ => by simp [PyData.shownAll, lens, costAll]
  | d :: ds, h => by
    simp only [costAll] at h
    have h1 := shown_le d (by omega)
    have h2 := shownAll_le ds (by omega)
    simp only [PyData.shownAll, lens, costAll]
    omega
end
/-- data that is shown without harm: its text, its depth -/
structure Nc (c e : Nat) (d : PyData) : Prop where
  sh : d.showable = true
  dp : d.depth ≤ e
  co : cost d ≤ c
theorem Nc.mono {c c' e e' : Nat} {d : PyData} (h : Nc c e d) (h1 : c ≤ c') (h2 : e ≤ e') : Nc c' e' d := ⟨h.sh, Nat.le_trans h.dp h2, Nat.le_trans h.co h1⟩
theorem Nc.len {c e : Nat} {d : PyData} (h : Nc c e d) (hc : c ≤ 1000000) : d.shown.length ≤ c := Nat.le_trans (shown_le d (by have := h.co; omega)) h.co
theorem nc_none : Nc 4 0 .none := ⟨rfl, Nat.le_refl _, Nat.le_refl _⟩
theorem nc_bool (b : Bool) : Nc 5 0 (.bool b) := ⟨rfl, Nat.le_refl _, Nat.le_refl _⟩
theorem nc_int {n : Int} {b : Nat} (h : n.natAbs < 2 ^ b) (h0 : 0 < b) (h1 : b ≤ 1900) : Nc (b + 2) 0 (.int n) := by
  have := PySem.Flt.log2_lt_of h0 h
  refine ⟨?_, Nat.le_refl _, ?_⟩
  · simp only [PyData.showable, decide_eq_true_eq]; omega
  · simp only [cost]; omega
theorem nc_str {x : Str} {c : Nat} (h : (reprText x).length ≤ c) : Nc c 0 (.str x) := ⟨rfl, Nat.le_refl _, h⟩
/-- several -/
structure NcA (c e : Nat) (ds : List PyData) : Prop where
  sh : PyData.showableAll ds = true
  dp : PyData.depthAll ds ≤ e
  co : costAll ds ≤ c
theorem nca_nil {e : Nat} : NcA 0 e [] := ⟨rfl, Nat.zero_le _, Nat.le_refl _⟩
theorem nca_cons {c c' e : Nat} {d : PyData} {ds : List PyData} (h : Nc c e d) (hs : NcA c' e ds) : NcA (c + 2 + c') e (d :: ds) := by
  refine ⟨?_, ?_, ?_⟩
  · simp only [PyData.showableAll, h.sh, hs.sh, Bool.and_self]
  · simp only [PyData.depthAll]; exact Nat.max_le.mpr ⟨h.dp, hs.dp⟩
  · simp only [costAll]; have := h.co; have := hs.co; omega
theorem nc_tup {c e : Nat} {ds : List PyData} (h : NcA c e ds) : Nc (c + 4) (e + 1) (.tuple ds) := by
  refine ⟨?_, ?_, ?_⟩
  · simp only [PyData.showable, h.sh]
  · simp only [PyData.depth]; have := h.dp; omega
  · simp only [cost]; have := h.co; omega
theorem nc_lst {c e : Nat} {ds : List PyData} (h : NcA c e ds) : Nc (c + 4) (e + 1) (.list ds) := by
  refine ⟨?_, ?_, ?_⟩
  · simp only [PyData.showable, h.sh]
  · simp only [PyData.depth]; have := h.dp; omega
  · simp only [cost]; have := h.co; omega
theorem nc_emp : Nc 2 1 (.dict []) := ⟨rfl, Nat.le_refl _, Nat.le_refl _⟩
theorem nc_pair {n m : Int} {b : Nat} (hn : n.natAbs < 2 ^ b) (hm : m.natAbs < 2 ^ b) (h0 : 0 < b) (h1 : b ≤ 1900) : Nc (2 * b + 12) 1 (.tuple [.int n, .int m]) :=
  (nc_tup (nca_cons (nc_int hn h0 h1) (nca_cons (nc_int hm h0 h1) nca_nil))).mono (by omega) (by omega)
/-! ### which data is what -/
def tyName : PyData → String
  | .none => "NoneType"
  | .bool _ => "bool"
  | .int _ => "int"
  | .str _ => "str"
  | .list _ => "list"
  | .tuple _ => "tuple"
  | .dict _ => "dict"
def isTup : PyData → Bool
  | .tuple _ => true
  | _ => false
def isInt : PyData → Bool
  | .int _ => true
  | .bool _ => true
  | _ => false
def isBo : PyData → Bool
  | .bool _ => true
  | _ => false
def isWh : PyData → Bool
  | .int _ => true
  | _ => false
theorem wh_eq (d : PyData) : (isInt d && !isBo d) = isWh d := by cases d <;> rfl
theorem kit_tup (d : PyData) : kitB (tyName d) "tuple" = some (isTup d) := by cases d <;> (simp only [tyName, isTup]; decide +kernel)
theorem kit_int (d : PyData) : kitB (tyName d) "int" = some (isInt d) := by cases d <;> (simp only [tyName, isInt]; decide +kernel)
theorem kit_bool (d : PyData) : kitB (tyName d) "bool" = some (isBo d) := by cases d <;> (simp only [tyName, isBo]; decide +kernel)
section
variable {K : PySem.W.Frag} {p : Addr} {H H' : Hp} {v : V} {d : PyData}
theorem Dq.ty (h : Dq K p H v d) : TyX K H v (.type (tyName d)) := by
  cases h with
  | non => exact .base .non
  | bl b => exact .base (.bl b)
  | int i => exact .base (.int i)
  | str x => exact .base (.str x)
  | lst _ _ h _ => exact .base (.lst h)
  | tup h _ =>
    rcases h with (h | ⟨o, h⟩) | ⟨o, _, _, h, c, _⟩
    · exact .base (.tup h)
    · exact .fTuple h
    · exact .kTuple h c
  | emp h => exact .base (.dK h)
theorem DqAll.len : ∀ {vs : List V} {ds : List PyData}, DqAll K p H vs ds → vs.length = ds.length
  | _, _, .nil => rfl
  | _, _, .cons _ h => by rw [List.length_cons, List.length_cons, h.len]
theorem DqAll.mem : ∀ {vs : List V} {ds : List PyData}, DqAll K p H vs ds → ∀ x ∈ vs, ∃ d ∈ ds, Dq K p H x d
  | _, _, .nil, x, hx => nomatch hx
  | _, _, .cons (d := d) h hs, x, hx => by
    rcases List.mem_cons.mp hx with rfl | hx
    · exact ⟨d, List.mem_cons_self, h⟩
    · obtain ⟨e, he, q⟩ := hs.mem x hx
      exact ⟨e, List.mem_cons_of_mem _ he, q⟩
theorem DqAll.append : ∀ {vs ws : List V} {ds es : List PyData}, DqAll K p H vs ds → DqAll K p H ws es → DqAll K p H (vs ++ ws) (ds ++ es)
  | _, _, _, _, .nil, h => h
  | _, _, _, _, .cons a b, h => .cons a (b.append h)
/-- a fraction's data -/
def frd (q : Rat) : PyData := .tuple [.int q.num, .int (q.den : Int)]
theorem Fr.dq {b : Nat} {q : Rat} (h : Fr K b q v H) : Dq K p H v (frd q) := by
  obtain ⟨a, rfl, h, _⟩ := h
  exact .tup h (.cons (.int _) (.cons (.int _) .nil))
theorem Fr.nc {b : Nat} {q : Rat} (h : Fr K b q v H) (h0 : 0 < b) (h1 : b ≤ 1900) : Nc (2 * b + 12) 1 (frd q) := nc_pair h.bd.1 (bd_den h.bd) h0 h1
/-- whether it is a fraction's -/
def frB : PyData → Bool
  | .tuple [.int n, .int m] => decide (0 < m) && decide (Nat.gcd n.natAbs m.natAbs = 1)
  | _ => false
def frQ : PyData → Rat
  | .tuple [.int n, .int m] => Rat.divInt n m
  | _ => 0
theorem divInt_low {n m : Int} (hm : 0 < m) (hg : Nat.gcd n.natAbs m.natAbs = 1) : (Rat.divInt n m).num = n ∧ ((Rat.divInt n m).den : Int) = m := by
  obtain ⟨h1, h2⟩ := low_eq n m (by omega) 1 (by rw [if_neg (by omega)])
  rw [hg] at h1 h2
  constructor
  · rw [← h1]; simp
  · rw [← h2]; simp
theorem frB_frd (q : Rat) : frB (frd q) = true := by
  have := den_pos q
  have h := red q
  simp only [frd, frB, h, decide_true, Bool.and_true, decide_eq_true_eq]
  exact this
theorem frQ_frd (q : Rat) : frQ (frd q) = q := by
  simp only [frd, frQ]
  exact Rat.num_divInt_den q
theorem frB_iff (h : frB d = true) : d = frd (frQ d) := by
  unfold frB at h
  split at h
  · rename_i n m
    rw [Bool.and_eq_true] at h
    obtain ⟨h1, h2⟩ := divInt_low (of_decide_eq_true h.1) (of_decide_eq_true h.2)
    simp only [frd, frQ, h1, h2]
  · cases h
theorem Dq.fr {b : Nat} (h : Dq K p H v d) (hb : frB d = true) (bd : Bd b (frQ d)) : Fr K b (frQ d) v H := by
  have e := frB_iff hb
  generalize frQ d = q at e bd
  subst e
  cases h with
  | tup h hs =>
    cases hs with
    | cons h1 h2 =>
      cases h2 with
      | cons h3 h4 =>
        cases h4
        cases h1
        cases h3
        exact ⟨_, rfl, h, bd⟩
end
end Jf
set_option Elab.async false
set_option linter.all false
set_option maxRecDepth 100000
set_option maxHeartbeats 4000000
namespace Jf
open PySem PySem.Spec PyProof.Rows L2 Evl
/-! ### the end of a law whose def shows data -/
/-- the script, known to its object; else nothing -/
def track (a : Addr) (vs : List Value) (ns : List Int) : Hp := fun b => if b = a then some (.frz { cls := .type "list", data := .seq vs.toArray } (.lst (ns.map V.int))) else none
theorem track_at {a : Addr} {vs : List Value} {ns : List Int} : track a vs ns a = some (.frz { cls := .type "list", data := .seq vs.toArray } (.lst (ns.map V.int))) := if_pos rfl
theorem track_ne {a b : Addr} {vs : List Value} {ns : List Int} (h : b ≠ a) : track a vs ns b = none := if_neg h
/-- what the law's promise is asked at -/
structure Asked (K : PySem.W.Frag) (h : Heap) (a : Addr) (vs : List Value) (ns : List Int) (H : Hp) : Prop where
  known : SqL K H a (ns.map V.int)
  only : ∀ b u, H b = some u → b = a ∧ ∃ o xs, u = .frz o (.lst xs)
  free : ∀ b o, K.lookup b = some o → H b = none
theorem seq_not_dict {h : Heap} {a : Addr} {vs : Array Value} {m : Str → Option Value} (ha : h.get? a = some { cls := .type "list", data := .seq vs }) : ¬ h.Ns a m := by
  rintro ⟨o, es, ep, e, d, _⟩
  rw [ha] at e
  cases e
  cases d
section
variable {P : Program} {w : World} {K : PySem.W.Frag} {mg mb : Str → Option Value} {k : Nat} {fa a : Addr} {fd : FuncData} {x : Str} {sp : Sp} {s₁ : Shared} {vs : List Value} {ns : List Int}
theorem go_law {H : Hp} (S : Asked K s₁.heap a vs ns H) (hok : HOk P w H s₁.heap) (KX : K.In s₁.heap) (hns : s₁.heap.Ns mainGlobals mg) (hb : s₁.heap.Ns builtinsNs mb) (hbb : ∀ x : Str, x ≠ "__name__" → mb x = bootBuiltins x) (hlim : s₁.heap.NoLimit) (hg : s₁.gens = #[])
    (ha : s₁.heap.get? a = some { cls := .type "list", data := .seq vs.toArray }) (hr : Room k callerA)
    (F : ∀ base : Heap, K.In base → base.Ns mainGlobals mg → FnG P w K mg base k fa fd [x] sp) (hbind : ∀ (s : Shared) (u : Value), BindsTo s fd ⟨[u], []⟩ [(x, u)])
    (hsp : sp [.ref a] H (fun v _ => v = .bl true) E0) :
    codeAny (model P w) callerA (.call (.ref fa) ⟨[.ref a], []⟩) (fun r s' => r = .ok (.ret (.bool true)) ∧ PySem.OldK s₁.heap s'.heap ∧ s'.os = s₁.os ∧ AllBare s'.gens) s₁ := by
  have ns_of : ∀ {b : Addr} {m : Str → Option Value}, s₁.heap.Ns b m → (hidT s₁.heap H).Ns b m := by
    intro b m hn
    have hn' := hn
    obtain ⟨o, es, ep, e, r⟩ := hn
    refine ⟨o, es, ep, hidT_get e ?_, r⟩
    cases q : H b with
    | none => rfl
    | some u =>
      obtain ⟨rfl, _⟩ := S.only b u q
      exact absurd hn' (seq_not_dict ha)
  have hKb : K.In (hidT s₁.heap H) := fun b o e => hidT_get (KX b o e) (S.free b o e)
  obtain ⟨mc, l1, l2⟩ := hlim
  have e0 : Env0 P w K mg (hidT s₁.heap H) callerA [] s₁ H := by
    constructor
    · rfl
    · exact ⟨hKb, ns_of hns, ⟨mb, ns_of hb, hbb⟩, ⟨mc, ns_of l1, l2⟩⟩
    · exact fun b o e => of_hidT e
    · exact Nat.le_of_eq (hidT_size _ _)
    · trivial
    · intro b hb
      exact absurd (show b ∈ ([] : List Addr) from hb) (by simp)
    · exact hok
    · exact .of_eq hg
  apply codeAny_mono ((F _ hKb (ns_of hns)).go callerA [] s₁ H ⟨[.ref a], []⟩ [.ref a] [.ref a] _ rfl hr e0 (hbind s₁ (.ref a)) (.cons rfl .nil) hsp)
  intro r s' h
  match r, h with
  | .error _, h => exact False.elim h
  | .ok (.ret u), ⟨v, H', os, bare, un, hok', r', q⟩ =>
    subst q
    obtain rfl : u = Value.bool true := r'
    refine ⟨rfl, PySem.OldK.of_keep ?_, os, bare⟩
    intro b o e
    cases q : H b with
    | none => exact un.keep b o e q (by intro z; exact absurd (show b ∈ ([] : List Addr) from z) (by simp)) (by simp)
    | some u =>
      obtain ⟨rfl, ob, xs, rfl⟩ := S.only b u q
      have q2 := un.frzs b ob _ q
      have e1 := (hok b _ q).1
      have e2 := (hok' b _ q2).1
      rw [e] at e1
      cases e1
      exact e2
theorem law_callG (KX : K.In s₁.heap) (hns : s₁.heap.Ns mainGlobals mg) (hb : s₁.heap.Ns builtinsNs mb) (hbb : ∀ x : Str, x ≠ "__name__" → mb x = bootBuiltins x) (hlim : s₁.heap.NoLimit) (hg : s₁.gens = #[])
    (ha : s₁.heap.get? a = some { cls := .type "list", data := .seq vs.toArray }) (hi : IntsAre vs ns) (hl : ns.length ≤ sizeLine) (hr : Room k callerA)
    (F : ∀ base : Heap, K.In base → base.Ns mainGlobals mg → FnG P w K mg base k fa fd [x] sp) (hbind : ∀ (s : Shared) (u : Value), BindsTo s fd ⟨[u], []⟩ [(x, u)])
    (hsp : ∀ H : Hp, SqL K H a (ns.map V.int) → sp [.ref a] H (fun v _ => v = .bl true) E0) :
    codeAny (model P w) callerA (.call (.ref fa) ⟨[.ref a], []⟩) (fun r s' => r = .ok (.ret (.bool true)) ∧ PySem.OldK s₁.heap s'.heap ∧ s'.os = s₁.os ∧ AllBare s'.gens) s₁ := by
  have rv := vals_ints hi
  cases hk : K.lookup a with
  | some o =>
    have e := KX a o hk
    rw [ha] at e
    cases e
    have known : SqL K (fun _ => none) a (ns.map V.int) := .inr ⟨_, vs.toArray, _, hk, rfl, rfl, rfl, by rw [List.size_toArray, hi.length]; exact hl, by simpa using rv⟩
    exact go_law (H := fun _ => none) ⟨known, (fun _ _ z => nomatch z), (fun _ _ _ => rfl)⟩ (fun _ _ z => nomatch z) KX hns hb hbb hlim hg ha hr F hbind (hsp _ known)
  | none =>
    have known : SqL K (track a vs ns) a (ns.map V.int) := .inl (.inr ⟨_, track_at⟩)
    refine go_law (H := track a vs ns) ⟨known, fun b u z => ?_, fun b o z => track_ne ?_⟩ (fun b u z => ?_) KX hns hb hbb hlim hg ha hr F hbind (hsp _ known)
    · by_cases h : b = a
      · subst h
        rw [track_at] at z
        cases z
        exact ⟨rfl, _, _, rfl⟩
      · rw [track_ne h] at z
        cases z
    · rintro rfl
      rw [hk] at z
      cases z
    · by_cases h : b = a
      · subst h
        rw [track_at] at z
        cases z
        exact ⟨ha, by rw [List.length_map]; exact hl, vs, _, rv, ha⟩
      · rw [track_ne h] at z
        cases z
end
theorem walk_ofG {l : PySem.W.OpenLaw} {n k : Nat} {q : Program} {loose : List Str} {XP : (Str → Option Value) → Heap → Prop} {YP : World → Heap → Prop} {d : DefRec} {K : Params → PySem.W.Frag} {sp : World → Sp} {x : Str}
    (hn : l.most = some n) (hn2 : n ≤ sizeLine) (hdf : d.params.defaults = []) (hr : Room k callerA) (hY : ∀ (w : World) (h : Heap), YP w h → (K w.params).In h)
    (F : ∀ (w : World) (mg : Str → Option Value) (fa : Addr) (h : Heap), (K w.params).In h → h.Ns mainGlobals mg → mg d.name = some (.ref fa) →
      ∃ fd : FuncData, (∀ (s : Shared) (u : Value), BindsTo s fd ⟨[u], []⟩ [(x, u)]) ∧ ∀ base : Heap, (K w.params).In base → base.Ns mainGlobals mg → FnG l.prog w (K w.params) mg base k fa fd [x] (sp w))
    (hsp : ∀ (w : World) (H : Hp) (a : Addr) (ns : List Int), ns.length ≤ n → SqL (K w.params) H a (ns.map V.int) → sp w [.ref a] H (fun v _ => v = .bl true) E0) :
    PySem.W.WalkO q loose XP YP l.row.toRowW d [] (fun f vs => PySem.call f vs) := by
  apply Att.attach_call hn hdf
  intro w s₀ s₁ mg mb fa o pm cd doc a vs ns G Y _ _ _ hmg hobj hints hlen hg
  obtain ⟨fd, hb, hF⟩ := F w mg fa _ (hY w _ Y) G.T.g hmg
  exact law_callG (hY w _ Y) G.T.g G.T.b G.T.builtins G.T.nolimit hg hobj hints (Nat.le_trans hlen hn2) hr hF hb fun H hS => hsp w H a ns hlen hS
end Jf
set_option Elab.async false
set_option linter.all false
set_option maxRecDepth 100000
set_option maxHeartbeats 4000000
namespace Jf
open PySem PySem.Spec PyProof.Rows L2 Evl
/-! ### the end of a law whose def shows data, some defs of which hold generators (cs: their code objects, with the tables) -/
def trackT (cs : List (Addr × Addr)) (H : Hp) : Hp := fun b => if b ∈ cs.map (fun p => p.2) then some (.tbl #[]) else H b
theorem trackT_in {cs : List (Addr × Addr)} {H : Hp} {b : Addr} (h : b ∈ cs.map (fun p => p.2)) : trackT cs H b = some (.tbl #[]) := if_pos h
theorem trackT_out {cs : List (Addr × Addr)} {H : Hp} {b : Addr} (h : b ∉ cs.map (fun p => p.2)) : trackT cs H b = H b := if_neg h
structure AskedT (K : PySem.W.Frag) (cs : List (Addr × Addr)) (a : Addr) (ns : List Int) (H : Hp) : Prop where
  known : SqL K H a (ns.map V.int)
  tbl : ∀ b ∈ cs.map (fun p => p.2), H b = some (.tbl #[])
  only : ∀ b u, H b = some u → b ∈ cs.map (fun p => p.2) ∨ (b = a ∧ ∃ o xs, u = .frz o (.lst xs))
  free : ∀ b o, K.lookup b = some o → H b = none
section
variable {P : Program} {w : World} {K : PySem.W.Frag} {mg mb : Str → Option Value} {k : Nat} {fa a : Addr} {fd : FuncData} {x : Str} {sp : Sp} {s₁ : Shared} {vs : List Value} {ns : List Int} {cs : List (Addr × Addr)}
theorem go_lawT {H : Hp} (S : AskedT K cs a ns H) (hok : HOk P w H s₁.heap) (KX : K.In s₁.heap) (hns : s₁.heap.Ns mainGlobals mg) (hb : s₁.heap.Ns builtinsNs mb) (hbb : ∀ x : Str, x ≠ "__name__" → mb x = bootBuiltins x) (hlim : s₁.heap.NoLimit) (hg : s₁.gens = #[])
    (hT : ∀ p ∈ cs, s₁.heap.get? p.2 = some { cls := .none, data := .fields #[] }) (hC : ∀ p ∈ cs, PySem.W.CodeHd s₁.heap p.1 p.2)
    (hbm : ∃ (bm : Addr) (ob : Obj), mg "__builtins__" = some (.ref bm) ∧ bm ≠ builtinsNs ∧ s₁.heap.get? bm = some ob ∧ ob.cls = .type "module" ∧ ob.dict = some builtinsNs ∧ ob.data = .plain)
    (ha : s₁.heap.get? a = some { cls := .type "list", data := .seq vs.toArray }) (hr : Room k callerA)
    (F : ∀ base : Heap, K.In base → base.Ns mainGlobals mg → (∀ p ∈ cs, GxR.TabB base mg p.1 p.2) → FnG P w K mg base k fa fd [x] sp) (hbind : ∀ (s : Shared) (u : Value), BindsTo s fd ⟨[u], []⟩ [(x, u)])
    (hsp : sp [.ref a] H (fun v _ => v = .bl true) E0) :
    codeAny (model P w) callerA (.call (.ref fa) ⟨[.ref a], []⟩) (fun r s' => r = .ok (.ret (.bool true)) ∧ PySem.OldK s₁.heap s'.heap ∧ s'.os = s₁.os ∧ AllBare s'.gens) s₁ := by
  have atT : ∀ b ∈ cs.map (fun p => p.2), s₁.heap.get? b = some { cls := .none, data := .fields #[] } := by
    intro b h
    obtain ⟨p, hp, rfl⟩ := List.mem_map.mp h
    exact hT p hp
  -- what has other data isn't tracked
  have other : ∀ {b : Addr} {o : Obj}, s₁.heap.get? b = some o → o.data ≠ .fields #[] → (∀ us n, o.data ≠ .seq us n) → H b = none := by
    intro b o e n1 n2
    cases q : H b with
    | none => rfl
    | some u =>
      rcases S.only b u q with z | ⟨rfl, _⟩
      · rw [atT b z] at e
        cases e
        exact absurd rfl n1
      · rw [ha] at e
        cases e
        exact absurd rfl (n2 _ _)
  have base_ns : ∀ {b : Addr} {m : Str → Option Value}, s₁.heap.Ns b m → (hidT s₁.heap H).Ns b m := by
    rintro b m ⟨o, es, ep, e, d, r⟩
    exact ⟨o, es, ep, hidT_get e (other e (by rw [d]; exact fun z => nomatch z) fun us n z => by rw [d] at z; cases z), d, r⟩
  have hKb : K.In (hidT s₁.heap H) := fun b o e => hidT_get (KX b o e) (S.free b o e)
  have TB : ∀ p ∈ cs, GxR.TabB (hidT s₁.heap H) mg p.1 p.2 := by
    intro p hp
    have tp := hT p hp
    obtain ⟨o, us, file, tf, flags, tg, inF, text, tt, c1, c2, c3, c4, c5⟩ := hC p hp
    obtain ⟨bm, ob, b1, b2, b3, b4, b5, b6⟩ := hbm
    constructor
    · refine ⟨o, us, file, tf, flags, tg, inF, text, tt, hidT_get c1 (other c1 (fun z => ?_) fun us n z => ?_), c2, c3, c4, c5⟩
      · rw [c3] at z
        cases z
        simp at c4
      · rw [c3] at z
        cases z
    · refine ⟨bm, ob, b1, b2, fun z => ?_, fun z => ?_, hidT_get b3 (other b3 (by rw [b6]; exact fun z => nomatch z) fun us n z => by rw [b6] at z; cases z), b4, b5, b6⟩
      · obtain ⟨o2, es, ep, e, d, _⟩ := hns
        rw [z, e] at b3
        cases b3
        rw [d] at b6
        cases b6
      · rw [z, tp] at b3
        cases b3
        cases b6
    · intro z
      obtain ⟨o2, es, ep, e, d, _⟩ := hns
      rw [z, tp] at e
      cases e
      cases d
  obtain ⟨mc, l1, l2⟩ := hlim
  have e0 : Env0 P w K mg (hidT s₁.heap H) callerA [] s₁ H := by
    constructor
    · rfl
    · exact ⟨hKb, base_ns hns, ⟨mb, base_ns hb, hbb⟩, ⟨mc, base_ns l1, l2⟩⟩
    · exact fun b o e => of_hidT e
    · exact Nat.le_of_eq (hidT_size _ _)
    · trivial
    · intro b hb
      exact absurd (show b ∈ ([] : List Addr) from hb) (by simp)
    · exact hok
    · exact .of_eq hg
  apply codeAny_mono ((F _ hKb (base_ns hns) TB).go callerA [] s₁ H ⟨[.ref a], []⟩ [.ref a] [.ref a] _ rfl hr e0 (hbind s₁ (.ref a)) (.cons rfl .nil) hsp)
  intro r s' h
  match r, h with
  | .error _, h => exact False.elim h
  | .ok (.ret u), ⟨v, H', os, bare, un, hok', r', q⟩ =>
    subst q
    obtain rfl : u = Value.bool true := r'
    have same : ∀ b o, b ∉ cs.map (fun p => p.2) → s₁.heap.get? b = some o → s'.heap.get? b = some o := by
      intro b o nb e
      cases q : H b with
      | none => exact un.keep b o e q (by intro z; exact absurd (show b ∈ ([] : List Addr) from z) (by simp)) (by simp)
      | some u =>
        rcases S.only b u q with z | ⟨rfl, ob, xs, rfl⟩
        · exact absurd z nb
        · have q2 := un.frzs b ob _ q
          have e1 := (hok b _ q).1
          have e2 := (hok' b _ q2).1
          rw [e] at e1
          cases e1
          exact e2
    have more : ∀ b ∈ cs.map (fun p => p.2), ∃ m : Array Value, s'.heap.get? b = some { cls := .none, data := .fields m } := by
      intro b h
      obtain ⟨m, z⟩ := un.tbls b #[] (S.tbl b h)
      exact ⟨_, hok' b _ z⟩
    refine ⟨rfl, ⟨fun b o e => ?_, fun b o e => ?_⟩, os, bare⟩
    · by_cases h : b ∈ cs.map (fun p => p.2)
      · obtain ⟨m, z⟩ := more b h
        obtain ⟨p, hp, rfl⟩ := List.mem_map.mp h
        rw [hT p hp] at e
        cases e
        exact .inr (.inl ⟨((hC p hp).tab (hT p hp)).isCodeTable, rfl, #[], m, rfl, by rw [Array.empty_append]; exact z⟩)
      · exact .inl (same b o h e)
    · by_cases h : b ∈ cs.map (fun p => p.2)
      · obtain ⟨m, z⟩ := more b h
        exact ⟨_, z⟩
      · exact ⟨o, same b o h e⟩
theorem law_callGT (KX : K.In s₁.heap) (hns : s₁.heap.Ns mainGlobals mg) (hb : s₁.heap.Ns builtinsNs mb) (hbb : ∀ x : Str, x ≠ "__name__" → mb x = bootBuiltins x) (hlim : s₁.heap.NoLimit) (hg : s₁.gens = #[])
    (hT : ∀ p ∈ cs, s₁.heap.get? p.2 = some { cls := .none, data := .fields #[] }) (nT : ∀ p ∈ cs, K.lookup p.2 = none) (hC : ∀ p ∈ cs, PySem.W.CodeHd s₁.heap p.1 p.2)
    (hbm : ∃ (bm : Addr) (ob : Obj), mg "__builtins__" = some (.ref bm) ∧ bm ≠ builtinsNs ∧ s₁.heap.get? bm = some ob ∧ ob.cls = .type "module" ∧ ob.dict = some builtinsNs ∧ ob.data = .plain)
    (ha : s₁.heap.get? a = some { cls := .type "list", data := .seq vs.toArray }) (hi : IntsAre vs ns) (hl : ns.length ≤ sizeLine) (hr : Room k callerA)
    (F : ∀ base : Heap, K.In base → base.Ns mainGlobals mg → (∀ p ∈ cs, GxR.TabB base mg p.1 p.2) → FnG P w K mg base k fa fd [x] sp) (hbind : ∀ (s : Shared) (u : Value), BindsTo s fd ⟨[u], []⟩ [(x, u)])
    (hsp : ∀ H : Hp, (∀ p ∈ cs, H p.2 = some (.tbl #[])) → SqL K H a (ns.map V.int) → sp [.ref a] H (fun v _ => v = .bl true) E0) :
    codeAny (model P w) callerA (.call (.ref fa) ⟨[.ref a], []⟩) (fun r s' => r = .ok (.ret (.bool true)) ∧ PySem.OldK s₁.heap s'.heap ∧ s'.os = s₁.os ∧ AllBare s'.gens) s₁ := by
  have rv := vals_ints hi
  have atT : ∀ b ∈ cs.map (fun p => p.2), s₁.heap.get? b = some { cls := .none, data := .fields #[] } := by
    intro b h
    obtain ⟨p, hp, rfl⟩ := List.mem_map.mp h
    exact hT p hp
  have nK : ∀ b ∈ cs.map (fun p => p.2), K.lookup b = none := by
    intro b h
    obtain ⟨p, hp, rfl⟩ := List.mem_map.mp h
    exact nT p hp
  have na : a ∉ cs.map (fun p => p.2) := fun z => by
    have q := atT a z
    rw [ha] at q
    cases q
  have inT : ∀ p ∈ cs, p.2 ∈ cs.map (fun p => p.2) := fun p hp => List.mem_map.mpr ⟨p, hp, rfl⟩
  cases hk : K.lookup a with
  | some o =>
    have e := KX a o hk
    rw [ha] at e
    cases e
    have known : SqL K (trackT cs fun _ => none) a (ns.map V.int) := .inr ⟨_, vs.toArray, _, hk, rfl, rfl, rfl, by rw [List.size_toArray, hi.length]; exact hl, by simpa using rv⟩
    refine go_lawT (H := trackT cs fun _ => none) ⟨known, fun b h => trackT_in h, fun b u z => ?_, fun b o z => ?_⟩ (fun b u z => ?_) KX hns hb hbb hlim hg hT hC hbm ha hr F hbind (hsp _ (fun p hp => trackT_in (inT p hp)) known)
    · by_cases h : b ∈ cs.map (fun p => p.2)
      · exact .inl h
      · rw [trackT_out h] at z
        cases z
    · exact trackT_out fun h => by rw [nK b h] at z; cases z
    · by_cases h : b ∈ cs.map (fun p => p.2)
      · rw [trackT_in h] at z
        cases z
        exact atT b h
      · rw [trackT_out h] at z
        cases z
  | none =>
    have at_a : trackT cs (track a vs ns) a = some (.frz { cls := .type "list", data := .seq vs.toArray } (.lst (ns.map V.int))) := (trackT_out na).trans track_at
    have known : SqL K (trackT cs (track a vs ns)) a (ns.map V.int) := .inl (.inr ⟨_, at_a⟩)
    refine go_lawT (H := trackT cs (track a vs ns)) ⟨known, fun b h => trackT_in h, fun b u z => ?_, fun b o z => ?_⟩ (fun b u z => ?_) KX hns hb hbb hlim hg hT hC hbm ha hr F hbind (hsp _ (fun p hp => trackT_in (inT p hp)) known)
    · by_cases h : b ∈ cs.map (fun p => p.2)
      · exact .inl h
      · rw [trackT_out h] at z
        by_cases h2 : b = a
        · subst h2
          rw [track_at] at z
          cases z
          exact .inr ⟨rfl, _, _, rfl⟩
        · rw [track_ne h2] at z
          cases z
    · refine (trackT_out fun h => ?_).trans (track_ne ?_)
      · rw [nK b h] at z
        cases z
      · rintro rfl
        rw [hk] at z
        cases z
    · by_cases h : b ∈ cs.map (fun p => p.2)
      · rw [trackT_in h] at z
        cases z
        exact atT b h
      · rw [trackT_out h] at z
        by_cases h2 : b = a
        · subst h2
          rw [track_at] at z
          cases z
          exact ⟨ha, by rw [List.length_map]; exact hl, vs, _, rv, ha⟩
        · rw [track_ne h2] at z
          cases z
end
/-- the table of code objects of the def y, as the top leaves it: empty -/
def TabE (K : PySem.W.Frag) (y : Str) (mg : Str → Option Value) (h : Heap) : Prop := ∀ (f c T : Addr) (o : Obj) (fd : FuncData) (e : Value) (dd : Option Addr) (us : Array Value) (sl : Array (Option Value)),
  mg y = some (.ref f) → K.lookup f = some o → o.data = .func fd → fd.code = .ref c → K.lookup c = some ⟨e, dd, .fields us, sl⟩ → us[11]? = some (.ref T) → h.get? T = some { cls := .none, data := .fields #[] }
theorem walk_ofGT {l : PySem.W.OpenLaw} {n k : Nat} {q : Program} {loose : List Str} {XP : (Str → Option Value) → Heap → Prop} {YP : World → Heap → Prop} {d : DefRec} {K : Params → PySem.W.Frag} {sp : World → Sp} {x y : Str}
    (hn : l.most = some n) (hn2 : n ≤ sizeLine) (hdf : d.params.defaults = []) (hr : Room k callerA) (hrec : ((recsOf q).any fun e => e.name == y) = true) (hY : ∀ (w : World) (h : Heap), YP w h → (K w.params).In h)
    (F : ∀ (w : World) (mg : Str → Option Value) (fa : Addr) (h : Heap), (K w.params).In h → h.Ns mainGlobals mg → mg d.name = some (.ref fa) → TabE (K w.params) y mg h →
      ∃ (fd : FuncData) (cs : List (Addr × Addr)), (∀ p ∈ cs, h.get? p.2 = some { cls := .none, data := .fields #[] }) ∧ (∀ p ∈ cs, (K w.params).lookup p.2 = none) ∧ (∀ p ∈ cs, PySem.W.CodeHd h p.1 p.2) ∧ (∀ (s : Shared) (u : Value), BindsTo s fd ⟨[u], []⟩ [(x, u)]) ∧
        (∀ (H : Hp) (a : Addr) (ns : List Int), ns.length ≤ n → (∀ p ∈ cs, H p.2 = some (.tbl #[])) → SqL (K w.params) H a (ns.map V.int) → sp w [.ref a] H (fun v _ => v = .bl true) E0) ∧
        ∀ base : Heap, (K w.params).In base → base.Ns mainGlobals mg → (∀ p ∈ cs, GxR.TabB base mg p.1 p.2) → FnG l.prog w (K w.params) mg base k fa fd [x] (sp w)) :
    PySem.W.WalkO q loose XP YP l.row.toRowW d [] (fun f vs => PySem.call f vs) := by
  apply Att.attach_call hn hdf
  intro w s₀ s₁ mg mb fa o pm cd doc a vs ns G Y _ _ _ hmg hobj hints hlen hg
  have KX := hY w _ Y
  have empty : TabE (K w.params) y mg s₁.heap := by
    intro f c T o1 fd1 e dd us sl k0 k1 k2 k3 k4 k5
    obtain ⟨dL, mem, nm⟩ := List.any_eq_true.mp hrec
    obtain ⟨a2, o2, fd2, c2, T2, h1, h2, h3, h4, _, ⟨oc, vc, t1, _, t3, t4⟩, hT⟩ := G.T.tab dL mem
    rw [beq_iff_eq.mp nm, k0] at h1
    cases h1
    rw [KX _ _ k1] at h2
    cases h2
    rw [k2] at h3
    cases h3
    rw [k3] at h4
    cases h4
    rw [KX _ _ k4] at t1
    cases t1
    cases t3
    rw [k5] at t4
    cases t4
    exact hT
  obtain ⟨fd, cs, hT, nT, hC, hb, hsp, hF⟩ := F w mg fa _ KX G.T.g hmg empty
  exact law_callGT KX G.T.g G.T.b G.T.builtins G.T.nolimit hg hT nT hC G.T.bmain hobj hints (Nat.le_trans hlen hn2) hr hF hb fun H hH hS => hsp H a ns hlen hH hS
theorem walk_ofGK {l : PySem.W.OpenLaw} {n k : Nat} {q : Program} {loose : List Str} {XP : (Str → Option Value) → Heap → Prop} {YP : World → Heap → Prop} {d : DefRec} {K : Params → PySem.W.Frag} {sp : PySem.W.Frag → Addr → Sp} {PA : Addr} {x y : Str}
    (hn : l.most = some n) (hn2 : n ≤ sizeLine) (hdf : d.params.defaults = []) (hr : Room k callerA) (hrec : ((recsOf q).any fun e => e.name == y) = true) (hY : ∀ (w : World) (h : Heap), YP w h → (K w.params).In h)
    (F : ∀ (w : World) (mg : Str → Option Value) (fa : Addr) (h : Heap), (K w.params).In h → h.Ns mainGlobals mg → mg d.name = some (.ref fa) → TabE (K w.params) y mg h →
      ∃ (fd : FuncData) (cs : List (Addr × Addr)), (∀ p ∈ cs, h.get? p.2 = some { cls := .none, data := .fields #[] }) ∧ (∀ p ∈ cs, (K w.params).lookup p.2 = none) ∧ (∀ p ∈ cs, PySem.W.CodeHd h p.1 p.2) ∧ (∀ (s : Shared) (u : Value), BindsTo s fd ⟨[u], []⟩ [(x, u)]) ∧
        (∀ (H : Hp) (a : Addr) (ns : List Int), ns.length ≤ n → (∀ p ∈ cs, H p.2 = some (.tbl #[])) → SqL (K w.params) H a (ns.map V.int) → sp (K w.params) PA [.ref a] H (fun v _ => v = .bl true) E0) ∧
        ∀ base : Heap, (K w.params).In base → base.Ns mainGlobals mg → (∀ p ∈ cs, GxR.TabB base mg p.1 p.2) → FnG l.prog w (K w.params) mg base k fa fd [x] (sp (K w.params) PA)) :
    PySem.W.WalkO q loose XP YP l.row.toRowW d [] (fun f vs => PySem.call f vs) :=
  walk_ofGT (sp := fun w => sp (K w.params) PA) hn hn2 hdf hr hrec hY F
theorem walk_ofGL {l : PySem.W.OpenLaw} {n k : Nat} {q : Program} {loose : List Str} {XP : (Str → Option Value) → Heap → Prop} {YP : World → Heap → Prop} {d : DefRec} {K : Params → PySem.W.Frag} {sp : PySem.W.Frag → List Addr → Sp} {PA : List Addr} {x : Str} {ys : List Str}
    (hn : l.most = some n) (hn2 : n ≤ sizeLine) (hdf : d.params.defaults = []) (hr : Room k callerA) (hrec : (ys.all fun y => (recsOf q).any fun e => e.name == y) = true) (hY : ∀ (w : World) (h : Heap), YP w h → (K w.params).In h)
    (F : ∀ (w : World) (mg : Str → Option Value) (fa : Addr) (h : Heap), (K w.params).In h → h.Ns mainGlobals mg → mg d.name = some (.ref fa) → (∀ y ∈ ys, TabE (K w.params) y mg h) →
      ∃ (fd : FuncData) (cs : List (Addr × Addr)), (∀ p ∈ cs, h.get? p.2 = some { cls := .none, data := .fields #[] }) ∧ (∀ p ∈ cs, (K w.params).lookup p.2 = none) ∧ (∀ p ∈ cs, PySem.W.CodeHd h p.1 p.2) ∧ (∀ (s : Shared) (u : Value), BindsTo s fd ⟨[u], []⟩ [(x, u)]) ∧
        (∀ (H : Hp) (a : Addr) (ns : List Int), ns.length ≤ n → (∀ p ∈ cs, H p.2 = some (.tbl #[])) → SqL (K w.params) H a (ns.map V.int) → sp (K w.params) PA [.ref a] H (fun v _ => v = .bl true) E0) ∧
        ∀ base : Heap, (K w.params).In base → base.Ns mainGlobals mg → (∀ p ∈ cs, GxR.TabB base mg p.1 p.2) → FnG l.prog w (K w.params) mg base k fa fd [x] (sp (K w.params) PA)) :
    PySem.W.WalkO q loose XP YP l.row.toRowW d [] (fun f vs => PySem.call f vs) := by
  apply Att.attach_call hn hdf
  intro w s₀ s₁ mg mb fa o pm cd doc a vs ns G Y _ _ _ hmg hobj hints hlen hg
  have KX := hY w _ Y
  have empty : ∀ y ∈ ys, TabE (K w.params) y mg s₁.heap := by
    intro y hy f c T o1 fd1 e dd us sl k0 k1 k2 k3 k4 k5
    obtain ⟨dL, mem, nm⟩ := List.any_eq_true.mp (List.all_eq_true.mp hrec y hy)
    obtain ⟨a2, o2, fd2, c2, T2, h1, h2, h3, h4, _, ⟨oc, vc, t1, _, t3, t4⟩, hT⟩ := G.T.tab dL mem
    rw [beq_iff_eq.mp nm, k0] at h1
    cases h1
    rw [KX _ _ k1] at h2
    cases h2
    rw [k2] at h3
    cases h3
    rw [k3] at h4
    cases h4
    rw [KX _ _ k4] at t1
    cases t1
    cases t3
    rw [k5] at t4
    cases t4
    exact hT
  obtain ⟨fd, cs, hT, nT, hC, hb, hsp, hF⟩ := F w mg fa _ KX G.T.g hmg empty
  exact law_callGT KX G.T.g G.T.b G.T.builtins G.T.nolimit hg hT nT hC G.T.bmain hobj hints (Nat.le_trans hlen hn2) hr hF hb fun H hH hS => hsp H a ns hlen hH hS
end Jf
set_option Elab.async false
set_option linter.all false
set_option maxRecDepth 100000
set_option maxHeartbeats 4000000
namespace Jf
open PySem PySem.Spec PyProof.Rows L2 Evl
/-! ### sum of a generator over a list of pairs of ints, with one captured int -/
/-- the generator's own scope: two names, one captured -/
structure GenT (scope : Scope) (xa xb xc : Str) : Prop where
  kind : scope.kind = .function
  co : scope.isCoroutine = false
  cell : ∀ y ∈ scope.names, y.2 ≠ .cell
  dot : scope.names.lookup (".0" : Str) = some NameKind.local
  la : scope.names.lookup xa = some .local
  lb : scope.names.lookup xb = some .local
  lc : scope.names.lookup xc = some .free
  ne : xa ≠ xb
  only : ∀ y ∈ scope.names, y.2 = .free → y.1 = xc
  clo : ∀ cells : List (Str × Addr), (cloFrom cells scope.names []).lookup xc = some ((cells.lookup xc).getD 0)
/-- the element: an int of the two and the captured one -/
def EltT (prog : Program) (w : World) (scope : Scope) (xa xb xc : Str) (elt : Expr) (ok : Int → Int → Int → Prop) (g : Int → Int → Int → Int) : Prop :=
  ∀ (cenv : Env) (B : Around) (E : Value → Shared → Prop) (a b d : Int) (ta tb td : Tok) (c : Addr) (s : Shared) (m : Str → Option Value), cenv.scope = scope → ok a b d → s.heap.Ns cenv.locals m → m xa = some (.int a ta) → m xb = some (.int b tb) →
    cenv.cells.lookup xc = some c → s.heap.IsCell c (some (.int d td)) → wpAny (model prog w) B (eval elt cenv) (fun y s1 => (∃ t, y = .int (g a b d) t) ∧ Keeps s s1) E s
abbrev Prs := List (Addr × Int × Int)
def valP (ps : Prs) (d : Int) (g : Int → Int → Int → Int) (j : Nat) : Int := match ps[j]? with
  | some p => g p.2.1 p.2.2 d
  | none => 0
theorem valP_some {ps : Prs} {d : Int} {g : Int → Int → Int → Int} {j : Nat} {p : Addr × Int × Int} (h : ps[j]? = some p) : valP ps d g j = g p.2.1 p.2.2 d := by
  unfold valP
  rw [h]
def sumP (ps : Prs) (d : Int) (g : Int → Int → Int → Int) : Int := (ps.map fun p => g p.2.1 p.2.2 d).sum
theorem preSum_sumP (ps : Prs) (d : Int) (g : Int → Int → Int → Int) : preSum (valP ps d g) ps.length = sumP ps d g := by
  have step : ∀ n, n ≤ ps.length → preSum (valP ps d g) n = sumP (ps.take n) d g := by
    intro n
    induction n with
    | zero => intro _; rfl
    | succ n ih =>
      intro h
      have hn : n < ps.length := h
      have e := List.getElem?_eq_getElem hn
      show preSum (valP ps d g) n + valP ps d g n = _
      rw [ih (Nat.le_of_lt hn), valP_some e, List.take_succ, e]
      unfold sumP
      simp only [Option.toList_some, List.map_append, List.sum_append, List.map_cons, List.map_nil, List.sum_cons, List.sum_nil, Int.add_zero]
  rw [step _ (Nat.le_refl _), List.take_length]
section
variable {X : Cx} {pins : List (Addr × Obj)} {σ : L2.St} {H : Hp} {s : Shared}
/-- the generator's code: found in the def's table, or put there -/
theorem gcode {env : Env} {scope : Scope} {gpos : Pos} {nm : Str} {c P : Addr} {tb : Array Value} {s2 : Shared} {prog : Program} {w : World} {A : Around} {E : Value → Shared → Prop} {Ψ : Value → Shared → Prop} (hcode : env.code = .ref c)
    (cd : PySem.W.CodeHd s2.heap c P) (hP : s2.heap.get? P = some { cls := .none, data := .fields tb }) (ht : TriplesOk tb.toList)
    (rest : ∀ (code : Value) (h3 : Heap) (n3 : Nat) (tb3 : Array Value), Heap.ExtBut P s2.heap h3 → s2.heap.objs.size ≤ h3.objs.size → h3.get? P = some { cls := .none, data := .fields tb3 } → (∃ more, tb3 = tb ++ more) → TriplesOk tb3.toList → Ψ code { s2 with heap := h3, toks := n3 }) :
    wpAny (model prog w) A (genexprCode env gpos nm scope) Ψ E s2 := by
  cases found : codeAmong gpos tb.toList with
  | some cv =>
    apply wpAny_genexprCode_hit hcode (cd.code hP ht) found
    exact rest cv s2.heap s2.toks tb (Heap.ExtBut.refl _ _) (Nat.le_refl _) hP ⟨#[], by simp⟩ ht
  | none =>
    apply wpAny_genexprCodeX hcode (cd.code hP ht) (cd.tab hP) found
    intro c' h' n' hx ge lt co _ tab _
    obtain ⟨_, _, _, _, _, _, _, _, _, _, _, _, _, _, _, _, _, _, _, tr, _⟩ := co
    exact rest _ h' n' _ hx (Nat.le_trans ge (Nat.le_of_lt lt)) tab.2 ⟨_, rfl⟩ tr
/-- ready to be walked -/
def ReadyP (X : Cx) (pins : List (Addr × Obj)) (σ : L2.St) (H1 : Hp) (P : Addr) (ps : Prs) (d : Int) (g : Int → Int → Int → Int) (a : Addr) (s5 : Shared) : Prop :=
  ∃ (fp wr : List Addr) (G : Array GenState → Array GenState → Prop) (F : Nat → Value → Prop) (St : Nat → Shared → Prop),
    WalksS X.prog X.w X.A.in1 a fp wr G ps.length F St ∧ St 0 s5 ∧ (∀ b ∈ fp, b < s5.heap.objs.size) ∧ (∀ j v, F j v → ∃ t, v = .int (valP ps d g j) t) ∧ ∀ s', Moved wr G s5 s' → ∃ H2, GxR.Tabbed P H1 H2 ∧ Inv X pins σ H2 s'
/-- what the walked list holds -/
def PrsAt (K : PySem.W.Frag) (H : Hp) (yl : Addr) (ps : Prs) : Prop := SqL K H yl (ps.map fun p => V.ref p.1) ∧ ∀ p ∈ ps, SqT K H p.1 [.int p.2.1, .int p.2.2]
theorem gen_prs {c P : Addr} {elt iter : Expr} {xa xb xc : Str} {pa pb pt gpos : Pos} {kt ic k : Nat} {scope : Scope} {ok : Int → Int → Int → Prop} {g : Int → Int → Int → Int} {te : TE} {Q' : Value → Shared → Prop} {R : Prs → Int → Hp → Prop}
    (hr : Room k X.A) (TB : GxR.TabB X.base X.mg c P) (hcode : X.env.code = .ref c) (S : GenT scope xa xb xc) (hN : X.N[ic]? = some xc) (hk : X.env.kindOf xc = some .cell) (hi : PE X iter te) (hel : EltT X.prog X.w scope xa xb xc elt ok g)
    (hs : ∀ v, genFold iter X.env v = pure v) (I : Inv X pins σ H s)
    (h : te σ H fun v H1 => ∃ (yl : Addr) (ps : Prs) (d : Int), v = .ref yl ∧ PrsAt X.K H1 yl ps ∧ (∀ p ∈ ps, ok p.2.1 p.2.2 d) ∧ σ[ic]? = some (some (.int d)) ∧ GxR.TabG H1 P ∧ R ps d H1)
    (hQ : ∀ ps d H1 a s5, R ps d H1 → ReadyP X pins σ H1 P ps d g a s5 → Q' (.ref a) s5) :
    wpAny (model X.prog X.w) X.A (eval (.GeneratorExp elt [⟨.Tuple [.Name xa pa, .Name xb pb] kt pt, iter, [], 0⟩] scope gpos) X.env) Q' X.xe s := by
  obtain ⟨cc, hcc⟩ := I.ok.has xc (.inl hk)
  have hfree : ∀ y ∈ scope.names, y.2 = .free → ∃ c, X.env.cells.lookup y.1 = some c := fun y hy hf => ⟨cc, by rw [S.only y hy hf]; exact hcc⟩
  have hclo : (cloFrom X.env.cells scope.names []).lookup xc = some cc := by rw [S.clo, hcc]; rfl
  apply wpAny_GeneratorExp_walksQT hr.hd S.co (closure_ok hfree) S.cell S.dot S.la S.lb S.ne S.kind (by have := hr.dp; omega) (hs := hs)
  apply thn (hi.run pins s σ H _ I h)
  rintro xv s1 ⟨v, H1, I1, r1, yl, ps, d, rfl, ⟨hyl, hT⟩, hok, hd, ⟨tb, hP, ht⟩, q1⟩
  obtain rfl : xv = Value.ref yl := r1
  obtain ⟨its, rv, pl, hz⟩ := I1.list hyl
  have lst := pl.isList
  have nits : its.length = ps.length := by rw [← rv.length, List.length_map]
  have iat : ∀ (j : Nat) (p : Addr × Int × Int), ps[j]? = some p → its[j]? = some (Value.ref p.1) := by
    intro j p hp
    have e : (ps.map fun (p : Addr × Int × Int) => V.ref p.1)[j]? = some (V.ref p.1) := by rw [List.getElem?_map, hp]; rfl
    obtain ⟨u, hu, ru⟩ := rv.get e
    cases (show u = Value.ref p.1 from ru)
    exact hu
  have tup : ∀ j : Nat, ∃ uv : Tok × Tok, ∀ p : Addr × Int × Int, ps[j]? = some p → s1.heap.IsTuple p.1 #[.int p.2.1 uv.1, .int p.2.2 uv.2] := by
    intro j
    cases hj : ps[j]? with
    | none => exact ⟨(0, 0), fun p z => nomatch z⟩
    | some p =>
      obtain ⟨ts, tv, ⟨o, e1, e2, n, e3⟩, _⟩ := I1.tuple (hT p (List.mem_of_getElem? hj))
      cases tv with
      | cons ra rb =>
        cases rb with
        | cons rb rc =>
          cases rc
          obtain ⟨u, rfl⟩ := _root_.id ra
          obtain ⟨v, rfl⟩ := _root_.id rb
          refine ⟨(u, v), fun q z => ?_⟩
          cases z
          exact ⟨o, e1, e2, n, e3⟩
  obtain ⟨tk, htk⟩ := Classical.skolem.mp tup
  obtain ⟨uc, td, huc⟩ : ∃ (uc : Value) (td : Tok), uc = .int d td ∧ s1.heap.IsCell cc (some uc) := by
    obtain ⟨m, _, hm⟩ := I1.loc
    obtain ⟨u, ru, lk⟩ := hm ic xc (.int d) hN hd (.inr (.inl hk))
    obtain ⟨td, rfl⟩ := _root_.id ru
    rcases lk with ⟨z, _⟩ | ⟨_, c2, e2, hc2⟩
    · rw [hk] at z
      cases z
    · rw [hcc] at e2
      cases e2
      exact ⟨_, td, rfl, hc2⟩
  obtain ⟨rfl, hcell⟩ := huc
  let Ts : Nat → Addr := fun j => ((ps[j]?).map fun (p : Addr × Int × Int) => p.1).getD 0
  let vs : Nat → Array Value := fun j => ((ps[j]?).map fun (p : Addr × Int × Int) => (#[.int p.2.1 (tk j).1, .int p.2.2 (tk j).2] : Array Value)).getD #[.none, .none]
  have pat : ∀ j, j < its.toArray.size → ∃ p : Addr × Int × Int, ps[j]? = some p := fun j hj => by
    have : j < ps.length := by simpa [nits] using hj
    exact ⟨ps[j], List.getElem?_eq_getElem this⟩
  have tsT : ∀ j, j < its.toArray.size → s1.heap.IsTuple (Ts j) (vs j) := fun j hj => by
    obtain ⟨p, e⟩ := pat j hj
    have := htk j p e
    simpa only [Ts, vs, e, Option.map_some, Option.getD_some] using this
  have tlt : ∀ j, j < its.toArray.size → Ts j < s1.heap.objs.size := fun j hj => by
    obtain ⟨_, e, _⟩ := tsT j hj
    exact Heap.lt_size e
  have hit : ∀ j, j < its.toArray.size → its.toArray[j]? = some (.ref (Ts j)) := fun j hj => by
    obtain ⟨p, e⟩ := pat j hj
    have := iat j p e
    simpa only [Ts, e, Option.map_some, Option.getD_some, List.getElem?_toArray] using this
  have ylt : yl < s1.heap.objs.size := by
    obtain ⟨_, e, _⟩ := _root_.id lst
    exact Heap.lt_size e
  have WW := fun (B : Around) (hB : B.handled = none) => (WalksU.listOfTuples (prog := X.prog) (w := X.w) hB s1.heap.objs.size yl (Nat.ne_of_lt ylt) its.toArray Ts vs hit fun j hj => Nat.ne_of_lt (tlt j hj)).bound
  apply wpAny_pyIter_list lst
  generalize ho : ({ cls := .type "list_iterator", data := .fields #[.ref yl, .int 0 0] } : Obj) = it0
  have iter0 : (s1.heap.push it0).IsListIter s1.heap.objs.size yl 0 := by
    subst ho
    exact ⟨_, Heap.get?_push_size _ rfl, rfl, rfl⟩
  have old : ∀ b u, s1.heap.get? b = some u → (s1.heap.push it0).get? b = some u := fun b u e => Heap.get?_push_of_some _ e
  have tabS : s1.heap.get? P = some { cls := .none, data := .fields tb } := I1.hok P _ hP
  have Plt : P < s1.heap.objs.size := Heap.lt_size tabS
  have lim2 : (s1.heap.push it0).NoLimit := I1.nolimit.push it0
  refine ⟨lim2, ?_⟩
  refine gcode (s2 := { s1 with heap := s1.heap.push it0 }) hcode (TB.code.keeps fun b u e => old b u (I1.bk b u e)) (old _ _ tabS) ht fun code h3 n3 tb3 hx hsz hP3 hmore ht3 => ?_
  obtain ⟨bm, ob, e1, e2, e3, e4, e5, e6, e7, e8⟩ := TB.bm
  have keep3 : ∀ b u, b ≠ P → s1.heap.get? b = some u → h3.get? b = some u := fun b u hb e => hx b u hb (old b u e)
  have sz3 : s1.heap.objs.size < h3.objs.size := by
    have e : (s1.heap.push it0).objs.size = s1.heap.objs.size + 1 := Heap.size_push ..
    have hsz' : (s1.heap.push it0).objs.size ≤ h3.objs.size := hsz
    omega
  have cP : cStatics ≠ P := fun e => by
    obtain ⟨_, hns, _⟩ := I1.nolimit
    obtain ⟨o', es, ep, ho', hd', _⟩ := hns
    rw [e, tabS] at ho'
    cases ho'
    cases hd'
  have clt : cStatics < s1.heap.objs.size := by
    obtain ⟨_, hns, _⟩ := I1.nolimit
    exact hns.lt
  apply wpAny_builtinsFor (m := X.mg) (by rw [I1.ok.glob]; exact ((I1.mod.glob.keeps I1.bk).push it0).extBut hx TB.gP) e1 e2 (keep3 _ _ e4 (I1.bk _ _ e5)) e6 e7 e8
  have yP : yl ≠ P := fun z => by
    obtain ⟨_, e, hc1, _, hd1⟩ := _root_.id lst
    rw [z, tabS] at e
    cases e
    cases hd1
  have tP : ∀ j, j < its.toArray.size → Ts j ≠ P := fun j hj z => by
    obtain ⟨_, e, hc1, _⟩ := tsT j hj
    rw [z, tabS] at e
    cases e
    cases hc1
  have ccP : cc ≠ P := fun z => by
    obtain ⟨o, e, hc1⟩ := _root_.id hcell
    rw [z, tabS] at e
    cases e
    cases hc1
  have cclt : cc < s1.heap.objs.size := by
    obtain ⟨o, e, _⟩ := _root_.id hcell
    exact Heap.lt_size e
  have lst3 : h3.IsList yl its.toArray := by
    obtain ⟨ob, e, r⟩ := _root_.id lst
    exact ⟨ob, keep3 _ _ yP e, r⟩
  have iter3 : h3.IsListIter s1.heap.objs.size yl 0 := iter0.at fun u e => hx _ u (Nat.ne_of_gt Plt) e
  have ts3 : ∀ j, j < its.toArray.size → h3.IsTuple (Ts j) (vs j) := fun j hj => (tsT j hj).at fun o e => keep3 _ _ (tP j hj) e
  have cell3 : h3.IsCell cc (some (.int d td)) := by
    obtain ⟨o, e, r⟩ := _root_.id hcell
    exact ⟨o, keep3 _ _ ccP e, r⟩
  refine ⟨s1.heap.objs.size, _, _, _, _, _, _, (fun _ => true), (fun i y => ∃ (p : Addr × Int × Int) (t : Tok), ps[i]? = some p ∧ y = .int (g p.2.1 p.2.2 d) t), rfl, WW, ?_, ⟨iter3, lst3, ts3⟩, ?_, lim2.extBut hx cP, ?_, ?_, ?_⟩
  · rintro i v ⟨hi, rfl⟩
    obtain ⟨p, e⟩ := pat i hi
    exact ⟨.int p.2.1 (tk i).1, .int p.2.2 (tk i).2, by simp only [vs, e, Option.map_some, Option.getD_some]⟩
  · intro b hb
    show b < h3.objs.size
    rcases List.mem_cons.mp hb with rfl | hb
    · exact sz3
    · rcases List.mem_cons.mp hb with rfl | hb
      · exact Nat.lt_trans ylt sz3
      · obtain ⟨j, hj, rfl⟩ := List.mem_map.mp hb
        exact Nat.lt_trans (tlt j (List.mem_range.mp hj)) sz3
  · intro z
    rcases List.mem_cons.mp z with z | z
    · exact Nat.ne_of_lt clt z
    · cases z
  · intro href hhref
    refine ⟨fun B E' i va vb s₂ m₂ hB hPv hn ha hb hk => ?_, fun B E' i va vb s₂ m₂ hB hPv hp hn ha hb hk => ?_⟩
    · simp only [List.forIn_nil]
      exact wpAny_pure ⟨rfl, GxR.keeps_refl _⟩
    · obtain ⟨hi, ev⟩ := hPv
      obtain ⟨p, e⟩ := pat i hi
      simp only [vs, e, Option.map_some, Option.getD_some] at ev
      obtain ⟨rfl, rfl⟩ : va = .int p.2.1 (tk i).1 ∧ vb = .int p.2.2 (tk i).2 := by simpa using congrArg Array.toList ev
      have c2 : s₂.heap.IsCell cc (some (.int d td)) := by
        obtain ⟨o, e9, r⟩ := _root_.id cell3
        refine ⟨o, hk cc ?_ ?_ o (hhref _ _ e9), r⟩
        · exact List.mem_range.mpr (Nat.lt_trans cclt sz3)
        · intro z
          rcases List.mem_cons.mp z with z | z
          · exact Nat.ne_of_lt cclt z
          · cases z
      exact wpAny_mono (hel _ B E' p.2.1 p.2.2 d _ _ td cc s₂ m₂ rfl (hok p (List.mem_of_getElem? e)) hn ha hb hclo c2) (fun y s3 r => ⟨⟨p, r.1.choose, e, r.1.choose_spec⟩, r.2⟩) fun _ _ e => e
  · intro a h5 n5 gs bare gt hsz5 hk5 W5 at5
    simp only [GxR.passing_true, List.length_range] at W5
    have nI : its.toArray.size = ps.length := by rw [List.size_toArray, nits]
    rw [nI] at W5 at5
    refine hQ ps d H1 a _ q1 ⟨_, _, _, _, _, W5.in4_1, at5, ?_, fun j v hv => ?_, fun s' mv => ?_⟩
    · intro b hb
      show b < h5.objs.size
      have e5 : h5.objs.size = a + 1 := hsz5
      have e3 : h3.objs.size < a := gt
      rw [e5]
      rcases List.mem_cons.mp hb with rfl | hb
      · exact Nat.lt_succ_self _
      · rcases List.mem_cons.mp hb with rfl | hb
        · exact Nat.lt_succ_of_lt e3
        · exact Nat.lt_succ_of_lt (Nat.lt_trans (show b < h3.objs.size from List.mem_range.mp hb) e3)
    · obtain ⟨i, hij, p, t, e, rfl⟩ := hv
      obtain ⟨hj, ej⟩ := List.getElem?_eq_some_iff.mp hij
      rw [List.getElem_range] at ej
      subst ej
      exact ⟨t, by rw [valP_some e]⟩
    · obtain ⟨more, em⟩ := hmore
      have apart : ∀ b u, s1.heap.get? b = some u → b ∉ h3.objs.size :: [s1.heap.objs.size] := by
        intro b u e hb
        have l := Heap.lt_size e
        rcases List.mem_cons.mp hb with z | z
        · rw [z] at l
          exact Nat.lt_asymm (show h3.objs.size < s1.heap.objs.size from l) sz3
        · rcases List.mem_cons.mp z with z | z
          · rw [z] at l
            exact Nat.lt_irrefl _ l
          · cases z
      have J := GxR.inv_tab (more := more) (h' := s'.heap) (g' := s'.gens) (d' := s'.drawn) (t' := s'.toks) I1 hP (fun b u hb e => mv.heap b u (apart b u e) (hk5 b u (keep3 b u hb e)))
        (by rw [← em]; exact mv.heap P _ (apart P _ tabS) (hk5 P _ hP3)) (AllBare.movedS (I1.bare.push bare) mv)
      rw [GxR.sh_eta s1 s' mv.os] at J
      exact ⟨_, ⟨⟨tb ++ more, upd_same, by rw [← em]; exact ht3⟩, fun b hb => upd_ne hb⟩, J⟩
/-- sum(elt for xa, xb in te); behind it the def's table may have grown -/
def tSumP (K : PySem.W.Frag) (P : Addr) (ok : Int → Int → Int → Prop) (g : Int → Int → Int → Int) (ic : Nat) (te : TE) : TE := fun σ H Q => te σ H fun v H1 =>
  ∃ (yl : Addr) (ps : Prs) (d : Int), v = .ref yl ∧ PrsAt K H1 yl ps ∧ (∀ p ∈ ps, ok p.2.1 p.2.2 d) ∧ σ[ic]? = some (some (.int d)) ∧ GxR.TabG H1 P ∧ ∀ H2, GxR.Tabbed P H1 H2 → Q (.int (sumP ps d g)) H2
theorem pe_sumP {c P : Addr} {elt iter : Expr} {xa xb xc : Str} {pa pb pt gpos p pos : Pos} {kt ic k : Nat} {scope : Scope} {ok : Int → Int → Int → Prop} {g : Int → Int → Int → Int} {te : TE}
    (hr : Room k X.A) (hg : Gl X "sum") (hm : X.mg "sum" = none) (TB : GxR.TabB X.base X.mg c P) (hcode : X.env.code = .ref c) (S : GenT scope xa xb xc) (hN : X.N[ic]? = some xc) (hk : X.env.kindOf xc = some .cell) (hi : PE X iter te) (hel : EltT X.prog X.w scope xa xb xc elt ok g)
    (hs : ∀ v, genFold iter X.env v = pure v) (hb : bootBuiltins "sum" = some (.builtin "sum") := by decide +kernel)
    (he : starEach [.GeneratorExp elt [⟨.Tuple [.Name xa pa, .Name xb pb] kt pt, iter, [], 0⟩] scope gpos] X.env = (false, eval (.GeneratorExp elt [⟨.Tuple [.Name xa pa, .Name xb pb] kt pt, iter, [], 0⟩] scope gpos) X.env) :: starEach [] X.env := by rfl) :
    PE X (.Call (.Name "sum" p) [.GeneratorExp elt [⟨.Tuple [.Name xa pa, .Name xb pb] kt pt, iter, [], 0⟩] scope gpos] [] pos) (tSumP X.K P ok g ic te) := by
  constructor
  intro pins s σ H Q I want
  apply wpAny_Call_Name_kw (ld_blt I hg hm hb ?_)
  apply PyProof.Rows.callWith_builtin1 ?_ he (by rfl)
  rw [he]
  show wpAny _ _ (spliced ((false, eval (.GeneratorExp elt [⟨.Tuple [.Name xa pa, .Name xb pb] kt pt, iter, [], 0⟩] scope gpos) X.env) :: backTo pos (starEach [] X.env))) _ _ s
  apply Calls.spliced_cons (gen_prs (R := fun ps d H1 => ∀ H2, GxR.Tabbed P H1 H2 → Q (.int (sumP ps d g)) H2) hr TB hcode S hN hk hi hel hs I want ?_)
  intro ps d H1 a s5 k5 ready
  obtain ⟨fp, wr, G, F, St, W, st0, below, vals, ends⟩ := ready
  apply Calls.spliced_nil
  apply call_sum_walkAnyS
  refine W.self 0 _ _ _ st0 ⟨a, fp, wr, G, _, F, St, valP ps d g, rfl, W, st0, below, vals, fun s' t' mv => ?_⟩
  obtain ⟨H2, tabbed, J⟩ := ends s' mv
  rw [preSum_sumP]
  exact ⟨.int _, H2, J, ⟨t', rfl⟩, k5 H2 tabbed⟩
end
/-! ### the element top * (bottom // below) -/
def okCut (a b d : Int) : Prop := CDivZ d b ∧ CMulW a (d.fdiv b)
def gCut (a b d : Int) : Int := a * d.fdiv b
theorem elt_cut {prog : Program} {w : World} {scope : Scope} {xa xb xc : Str} {p1 p2 p3 p4 p5 : Pos} (S : GenT scope xa xb xc) (da : (xa == ("__debug__" : Str)) = false := by decide) (db : (xb == ("__debug__" : Str)) = false := by decide) (dc : (xc == ("__debug__" : Str)) = false := by decide)
    (dk : (xc == ("__classdict__" : Str)) = false := by decide) :
    EltT prog w scope xa xb xc (.BinOp (.Name xa p1) .Mult (.BinOp (.Name xc p2) .FloorDiv (.Name xb p3) p4) p5) okCut gCut := by
  intro cenv B E a b d ta tb td c s m hs ho hn ha hb hc hcell
  have kf : cenv.scope.kind = .function := by rw [hs]; exact S.kind
  have la : cenv.kindOf xa = some .local := by show cenv.scope.names.lookup xa = _; rw [hs]; exact S.la
  have lb : cenv.kindOf xb = some .local := by show cenv.scope.names.lookup xb = _; rw [hs]; exact S.lb
  have lc : cenv.kindOf xc = some .free := by show cenv.scope.names.lookup xc = _; rw [hs]; exact S.lc
  apply wpAny_BinOp
  apply wpAny_Name (wpAny_loadName_local kf la hn ha ?_) da
  apply wpAny_BinOp
  apply wpAny_Name (wpAny_loadName_free kf lc hc hcell ?_ dk) dc
  apply wpAny_Name (wpAny_loadName_local kf lb hn hb ?_) db
  apply floordiv_int ho.1.1 ?_ (.inl (PyProof.noPylong_of_log2 ho.1.2))
  apply mul_int ?_ ho.2.ok
  exact ⟨⟨_, rfl⟩, GxR.keeps_tok _ _⟩
end Jf
set_option Elab.async false
set_option linter.all false
set_option maxRecDepth 100000
set_option maxHeartbeats 4000000
namespace Jf
open PySem PySem.Spec PyProof.Rows L2 Evl GxR GenW
/-! ### all(e for x in a tuple), e of any kind that the layer reads -/
/-- the inner scope: one name, nothing captured -/
structure OneN (scope : Scope) (x : Str) : Prop where
  kind : scope.kind = .function
  co : scope.isCoroutine = false
  cell : ∀ y ∈ scope.names, y.2 ≠ .cell
  dot : scope.names.lookup (".0" : Str) = some NameKind.local
  loc : scope.names.lookup x = some .local
  free : ∀ y ∈ scope.names, y.2 ≠ .free
  ne : (".0" : Str) ≠ x
/-- the inner context: the callers' frames behind it, the walked iterator free to turn -/
def gxOf (X : Cx) (x : Str) (s : Shared) (H : Hp) (cenv : Env) (B : Around) (I : Addr) : Cx where
  prog := X.prog
  w := X.w
  K := X.K
  mg := X.mg
  base := X.base
  A := B
  N := [".0", x]
  s_0 := s
  H_0 := H
  env := cenv
  outer := X.stack
  stack := cenv :: X.stack
  ex := [I]
  fn := fun _ => true
  calm := true
  pn := []
  xe := fun _ _ => False
/-- the reading: from the left, till one says no -/
def rdAll (te : TE) : List V → Hp → (Bool → Hp → Prop) → Prop
  | [], H, Q => Q true H
  | v :: vs, H, Q => te [none, some v] H fun r H' => ∃ b, r = .bl b ∧ (b = true → rdAll te vs H' Q) ∧ (b = false → Q false H')
section
variable {X : Cx}
/-- where the generator stands: its object, its iterator -/
def gPins (a I t : Addr) (go : Obj) (i : Nat) (io : Obj) : List (Addr × Obj) := [(a, go), (I, io)]
def GInv (Y : Cx) (a I t : Addr) (go : Obj) (i : Nat) (H : Hp) (s : Shared) : Prop :=
  ∃ (σ : L2.St) (io : Obj), σ.length = 2 ∧ σ[0]? = some none ∧ io.cls = .type "tuple_iterator" ∧ io.data = .fields #[.ref t, .int i 0] ∧ Inv Y [(a, go), (I, io)] σ H s
def gDone (Y : Cx) (Q : Bool → Hp → Prop) (_ : Nat) (_ s : Shared) : Prop := ∃ σ H, Inv Y [] σ H s ∧ Q true H
def gEnd (Y : Cx) (Q : Bool → Hp → Prop) : GenEnd := fun n s₀ r s => ((r = .ok (.ret .none) ∨ r = .ok .next) ∧ gDone Y Q n s₀ s) ∨ ∃ e, r = .error e ∧ False
def gProt (Y : Cx) (a I t : Addr) (go : Obj) (Q : Bool → Hp → Prop) : Protocol := fun _ _ v s kap =>
  ∃ b i H, v = .bool b ∧ GInv Y a I t go i H s ∧ (b = false → Q false H) ∧ (b = true → ∀ s', s'.os = s.os → AllBare s'.gens → s'.heap = s.heap → kap (.send .none) s')
theorem GInv.woke {Y : Cx} {a I t : Addr} {go : Obj} {i : Nat} {H : Hp} {s s' : Shared} (h : GInv Y a I t go i H s) (o : s'.os = s.os) (g : AllBare s'.gens) (e : s'.heap = s.heap) : GInv Y a I t go i H s' := by
  obtain ⟨σ, io, l, z, c, d, J⟩ := h
  refine ⟨σ, io, l, z, c, d, J.call' (ch := []) o ?_ ?_ g fun b z => by simp at z⟩
  · rw [e]
    exact Un.kept fun _ _ q => q
  · rw [e]
    exact J.hok
theorem Inv.sqt {Y : Cx} {pins : List (Addr × Obj)} {σ : L2.St} {H : Hp} {s : Shared} {t : Addr} {xs : List V} (J : Inv Y pins σ H s) (h : SqT Y.K Y.H_0 t xs) : SqT Y.K H t xs := by
  rcases h with (h | ⟨o, h⟩) | h
  · exact .inl (.inl (J.base.tups _ _ h))
  · exact .inl (.inr ⟨o, J.base.frzs _ _ _ h⟩)
  · exact .inr h
theorem GInv.turn {Y : Cx} {a I : Addr} {go io : Obj} {σ : L2.St} {H : Hp} {s : Shared} {h' : Heap} (J : Inv Y [(a, go), (I, io)] σ H s) (hex : I ∈ Y.ex) (haI : a ≠ I) (hpn : Y.pn = []) (hcl : Y.env.cells = [])
    (k : ∀ b o, b ≠ I → s.heap.get? b = some o → h'.get? b = some o) : Inv Y [(a, go)] σ H { s with heap := h' } := by
  have pI := J.pin (I, io) (List.mem_append_right _ (by simp))
  have J0 : Inv Y [(a, go)] σ H s := J.pins_of fun p hp => J.pin p (List.mem_append_right _ (by
    rw [List.mem_singleton.mp hp]
    simp))
  refine J0.turned (t' := s.toks) k pI.2.1 pI.2.2.1 (.inl hex) (fun y c e => ?_) fun p hp => ?_
  · rw [hcl] at e
    cases e
  · rw [hpn, List.nil_append, List.mem_singleton] at hp
    rw [hp]
    exact haI
theorem seg_allLoop {Y : Cx} {Aw : Around} {elt iter : Expr} {x : Str} {px pos : Pos} {scope : Scope} {a I t : Addr} {go : Obj} {xs : List V} {te : TE} {Q : Bool → Hp → Prop}
    (hA : Aw.handled = none) (hY : Y.A = Aw.over (.compLoop (.GeneratorExp elt [⟨.Name x px, iter, [], 0⟩] scope pos) 0 (.ref I) .none Y.env) [])
    (hN : Y.N = [(".0" : Str), x]) (S : OneN scope x) (hsc : Y.env.scope = scope) (hcl : Y.env.cells = []) (hex : I ∈ Y.ex) (haI : a ≠ I) (hIt : t ≠ I) (hpn : Y.pn = []) (hxe : Y.xe = fun _ _ => False)
    (hel : PE Y elt te) (hT : SqT Y.K Y.H_0 t xs) (hgo : ∀ v, go.data ≠ .cell v) :
    ∀ (vs : List V) (i : Nat) (H : Hp) (s₀ s : Shared), xs.drop i = vs → GInv Y a I t go i H s → rdAll te vs H Q →
      Seg (model Y.prog Y.w) Aw (gEnd Y Q) (gProt Y a I t go Q) vs.length s₀ (.compLoop (.GeneratorExp elt [⟨.Name x px, iter, [], 0⟩] scope pos) 0 (.ref I) .none Y.env)
        ((model Y.prog Y.w).den (.compLoop (.GeneratorExp elt [⟨.Name x px, iter, [], 0⟩] scope pos) 0 (.ref I) .none Y.env)) [] s := by
  have hh' : (Aw.over (.compLoop (.GeneratorExp elt [⟨.Name x px, iter, [], 0⟩] scope pos) 0 (.ref I) .none Y.env) []).handled = none := hA
  have hco : Y.env.scope.isCoroutine = false := by rw [hsc]; exact S.co
  intro vs
  induction vs with
  | nil =>
    intro i H s₀ s hd hG hr
    obtain ⟨σ, io, l, z, hc, hdd, J⟩ := hG
    obtain ⟨its, rv, tp, _⟩ := J.tuple (Inv.sqt J hT)
    have pI := J.pin (I, io) (List.mem_append_right _ (by simp))
    have hlen : its.toArray[i]? = none := by
      have h1 := rv.length
      have h2 : xs.length ≤ i := List.drop_eq_nil_iff.mp hd
      rw [List.getElem?_toArray]
      exact List.getElem?_eq_none (by omega)
    show Seg _ Aw _ _ _ s₀ _ ((compTurn (.GeneratorExp elt [⟨.Name x px, iter, [], 0⟩] scope pos) 0 (.ref I) .none Y.env).onRaise (leaving Y.env)) [] s
    rw [compTurn_gen, Sem.onRaise_eq_wrap]
    refine seg_bind_wrap (wpAny_standAt ?_)
    refine seg_bind_wrap (wpAny_pyNext_tuple_end hh' ⟨io, pI.1, hc, hdd⟩ tp hlen fun h' hx => ?_)
    refine seg_end (.ok .next) (.inl ⟨.inr rfl, σ, H, ?_, hr⟩)
    exact (GInv.turn J hex haI hpn hcl fun b o hb e => hx b o hb e).pins_of fun p hp => by simp at hp
  | cons v vs ih =>
    intro i H s₀ s hd hG hr
    obtain ⟨σ, io, l, z, hc, hdd, J⟩ := hG
    obtain ⟨its, rv, tp, _⟩ := J.tuple (Inv.sqt J hT)
    have pI := J.pin (I, io) (List.mem_append_right _ (by simp))
    have pa := J.pin (a, go) (List.mem_append_right _ (by simp))
    have hxi : xs[i]? = some v := by
      have := congrArg (fun q : List V => q[0]?) hd
      simpa using this
    have hd2 : xs.drop (i + 1) = vs := by
      have := congrArg List.tail hd
      simpa [List.tail_drop] using this
    obtain ⟨u, hu, ru⟩ := rv.get hxi
    show Seg _ Aw _ _ _ s₀ _ ((compTurn (.GeneratorExp elt [⟨.Name x px, iter, [], 0⟩] scope pos) 0 (.ref I) .none Y.env).onRaise (leaving Y.env)) [] s
    rw [compTurn_gen, Sem.onRaise_eq_wrap]
    refine seg_bind_wrap (wpAny_standAt ?_)
    refine seg_bind_wrap (wpAny_pyNext_tuple_item (i := i) (x := u) ⟨io, pI.1, hc, hdd⟩ tp (by rw [List.getElem?_toArray]; exact hu) fun h' it' sb => ?_)
    obtain ⟨io', hio', hc', hd'⟩ := it'
    have J1 : Inv Y [(a, go), (I, io')] σ H { s with heap := h' } := by
      have J0 := GInv.turn J hex haI hpn hcl fun b o hb e => sb.extBut b o hb e
      refine J0.pins_of fun p hp => ?_
      rcases List.mem_cons.mp hp with rfl | hp
      · exact J0.pin _ (List.mem_append_right _ (by simp))
      · rw [List.mem_singleton] at hp
        subst hp
        exact ⟨hio', pI.2.1, pI.2.2.1, pI.2.2.2.1, fun v q => by rw [hd'] at q; cases q⟩
    refine seg_bind_wrap (wpAny_of_eq (rfl : letOwnedTupleGo (.Name x px) (.ref I) u = pure ()) ?_)
    have nd : Y.N.Nodup := by
      rw [hN]
      simp [S.ne]
    have lc : Loc Y.env.scope x := by
      rw [hsc]
      exact .inl S.loc
    refine seg_bind_wrap ?_
    rw [← hY]
    refine wpAny_mono ((pg_name (X := Y) (pos := px) (i := 1) (x := x) nd (by rw [hN]; rfl) lc (by right; rw [hsc]; exact S.loc)).run _ _ σ H v u (fun σ' H' => σ' = [none, some v] ∧ H' = H) J1 ru ?_) (fun _ s2 h2 => ?_) fun e s' hx => by rw [hxe] at hx; exact hx.elim
    · refine ⟨?_, rfl⟩
      match σ, l, z with
      | [none, y], _, _ => rfl
      | [some _, y], _, z => simp at z
    obtain ⟨σ2, H2, J2, rfl, rfl⟩ := h2
    refine seg_bind_wrap ?_
    simp only [List.forIn_nil]
    refine wpAny_pure ?_
    simp only [if_true]
    have hy : ∀ v, yieldOut Y.env v = yieldValue v := fun v => by simp only [yieldOut, hco, Bool.false_eq_true, if_false]
    simp only [hy]
    rw [Sem.bind_eq_wrap', Sem.bind_eq_wrap', Sem.wrap_wrap, Sem.wrap_wrap]
    refine seg_wrap ?_
    rw [← hY]
    refine wpAny_mono (hel.run _ _ _ _ _ J2 hr) (fun y s3 h3 => ?_) fun e s' hx => by rw [hxe] at hx; exact hx.elim
    obtain ⟨r, H3, J3, rr, b, rfl, ht, hf⟩ := h3
    obtain rfl : y = Value.bool b := rr
    have G3 : GInv Y a I t go (i + 1) H3 s3 := ⟨_, io', rfl, rfl, hc', hd', J3⟩
    refine seg_at (seg_yield rfl rfl rfl ⟨b, i + 1, H3, rfl, G3, hf, fun hb s' o g e => ?_⟩)
    exact seg_again rfl (ih (i + 1) H3 s' s' hd2 (G3.woke o g e) (ht hb))
end
theorem seg_allStart {Y : Cx} {Aw : Around} {elt iter : Expr} {x : Str} {px pos : Pos} {scope : Scope} {a I t : Addr} {go : Obj} {xs : List V} {te : TE} {Q : Bool → Hp → Prop}
    (hA : Aw.handled = none) (hY : Y.A = Aw.over (.compLoop (.GeneratorExp elt [⟨.Name x px, iter, [], 0⟩] scope pos) 0 (.ref I) .none Y.env) [])
    (hN : Y.N = [(".0" : Str), x]) (S : OneN scope x) (hsc : Y.env.scope = scope) (hcl : Y.env.cells = []) (hex : I ∈ Y.ex) (haI : a ≠ I) (hIt : t ≠ I) (hpn : Y.pn = []) (hxe : Y.xe = fun _ _ => False)
    (hel : PE Y elt te) (hT : SqT Y.K Y.H_0 t xs) (hgo : ∀ v, go.data ≠ .cell v) {H : Hp} {s₀ s : Shared} (hG : GInv Y a I t go 0 H s) (hr : rdAll te xs H Q) :
    Seg (model Y.prog Y.w) Aw (gEnd Y Q) (gProt Y a I t go Q) xs.length s₀ (.compStart (.GeneratorExp elt [⟨.Name x px, iter, [], 0⟩] scope pos) 0 (.ref I) .none Y.env)
      ((model Y.prog Y.w).den (.compStart (.GeneratorExp elt [⟨.Name x px, iter, [], 0⟩] scope pos) 0 (.ref I) .none Y.env)) [] s := by
  have go1 : ∀ s₀, Seg (model Y.prog Y.w) Aw (gEnd Y Q) (gProt Y a I t go Q) xs.length s₀ (.compStart (.GeneratorExp elt [⟨.Name x px, iter, [], 0⟩] scope pos) 0 (.ref I) .none Y.env) (.pure (.again (.compLoop (.GeneratorExp elt [⟨.Name x px, iter, [], 0⟩] scope pos) 0 (.ref I) .none Y.env))) [] s := fun s₀ => by
    apply seg_again rfl
    exact seg_allLoop hA hY hN S hsc hcl hex haI hIt hpn hxe hel hT hgo xs 0 H s₀ s (List.drop_zero ..) hG hr
  obtain ⟨σ, io, l, z, hc, hdd, J⟩ := hG
  obtain ⟨its, rv, tp, _⟩ := J.tuple (Inv.sqt J hT)
  have pI := J.pin (I, io) (List.mem_append_right _ (by simp))
  have hh : (Aw.over (.compStart (.GeneratorExp elt [⟨.Name x px, iter, [], 0⟩] scope pos) 0 (.ref I) .none Y.env) []).handled = none := hA
  have W := Walks.tuple (prog := Y.prog) (w := Y.w) hh I t hIt its.toArray
  have again := go1 s₀
  show Seg _ Aw _ _ _ s₀ _ ((compStart _ 0 (.ref I) .none Y.env).onRaise (leaving Y.env)) [] s
  unfold compStart
  rw [Sem.onRaise_eq_wrap]
  apply seg_bind_wrap (m := ask)
  apply wpAny_askSetting
  split
  · exact again
  · apply seg_bind_wrap
    apply wpAny_rule
    apply seg_bind_wrap
    apply wpAny_standAt
    apply seg_bind_wrap
    exact W.self 0 s _ _ ⟨⟨io, pI.1, hc, hdd⟩, tp⟩ again
/-- the generator's own object -/
structure GenO (go : Obj) (g : Nat) : Prop where
  cls : go.cls = .type "generator"
  data : ∃ nm qn, go.data = .fields #[.int g 0, nm, qn]
  slots : go.slots = #[]
theorem GenO.at {go : Obj} {g : Nat} {h : Heap} {a : Addr} (G : GenO go g) (e : h.get? a = some go) : h.IsGen a g := by
  obtain ⟨nm, qn, d⟩ := G.data
  exact ⟨go, nm, qn, e, G.cls, d, G.slots⟩
theorem inv_gens {Y : Cx} {σ : L2.St} {H : Hp} {s s' : Shared} {pins : List (Addr × Obj)} (J : Inv Y pins σ H s) (o : s'.os = s.os) (g : AllBare s'.gens) (k : ∀ b o, s.heap.get? b = some o → s'.heap.get? b = some o) : Inv Y pins σ H s' :=
  J.call' (ch := []) o (Un.kept k) (J.hok.kept k) g fun b z => by simp at z
theorem all_loop {Y : Cx} {A : Around} {a I t : Addr} {go : Obj} {g : Nat} {R : Result → Shared → Prop} {Q : Bool → Hp → Prop} (hh : A.handled = none) (hd : A.depth < recursionLimit) (G : GenO go g)
    (fin : ∀ b σ H s, Inv Y [] σ H s → Q b H → R (.ok (.ret (.bool b))) s) :
    ∀ (n : Nat) (s : Shared), s.heap.get? a = some go → s.heap.NoLimit → (∃ gs, s.gens[g]? = some gs ∧ gs.Goes (model Y.prog Y.w) A.in1.in1 (gEnd Y Q) (gProt Y a I t go Q) n (.send .none) (s.setGen g .running)) →
      codeAny (model Y.prog Y.w) A (.builtin "all.loop" ⟨[.ref a], []⟩) R s := by
  intro n
  induction n with
  | zero =>
    intro s ha hl ⟨gs, hgs, hgo⟩
    apply codeAny_builtin F.entry_all_loop
    rw [Around.under_plainId F.plain_all_loop _]
    show wpAny _ A.in1 (pyNext (.ref a) >>= _) _ _ s
    apply wpAny_bind
    apply next_genG (A := A.in1) (F := gDone Y Q) (Er := fun _ _ => False) hh hl hd (G.at ha) hgs hgo
    · intro v s1 gs' hb hv
      obtain ⟨b, i, H, rfl, hG, hf, ht⟩ := hv
      cases b with
      | true =>
        obtain ⟨_, _, _, _, _, _, J⟩ := hG
        exact False.elim (ht rfl s1 rfl J.bare rfl)
      | false =>
        obtain ⟨σ, io, _, _, _, _, J⟩ := hG
        apply wpAny_bind
        apply wpAny_holding
        apply wpAny_truthy_bool
        apply wpAny_bind
        apply wpAny_letGo
        show wpAny _ _ (rule _ >>= _) _ _ _
        apply wpAny_bind
        apply wpAny_rule
        apply wpAny_pure
        exact fin false σ H _ (inv_gens (J.pins_of fun p hp => by simp at hp) rfl (allBare_setGen J.bare hb) fun _ _ e => e) (hf rfl)
    · intro s1 hp h' hk
      obtain ⟨σ, H, J, q⟩ := hp
      show wpAny _ _ (rule _ >>= _) _ _ _
      apply wpAny_bind
      apply wpAny_rule
      apply wpAny_pure
      exact fin true σ H _ (inv_gens J rfl (allBare_setGen J.bare rfl) hk) q
    · intro e s1 he
      exact he.elim
  | succ n ih =>
    intro s ha hl ⟨gs, hgs, hgo⟩
    have hgl : g < s.gens.size := (Array.getElem?_eq_some_iff.mp hgs).1
    apply codeAny_builtin F.entry_all_loop
    rw [Around.under_plainId F.plain_all_loop _]
    show wpAny _ A.in1 (pyNext (.ref a) >>= _) _ _ s
    apply wpAny_bind
    apply wpAny_gsz (n := g + 1) hgl
    apply next_genG (A := A.in1) (F := gDone Y Q) (Er := fun _ _ => False) hh hl hd (G.at ha) hgs hgo
    · intro v s1 gs' hb hv hsz
      obtain ⟨b, i, H, rfl, hG, hf, ht⟩ := hv
      have hG' := hG
      obtain ⟨σ, io, _, _, _, _, J⟩ := hG'
      have pa := J.pin (a, go) (List.mem_append_right _ (by simp))
      apply wpAny_bind
      apply wpAny_holding
      apply wpAny_truthy_bool
      apply wpAny_bind
      apply wpAny_letGo
      cases b with
      | false =>
        show wpAny _ _ (rule _ >>= _) _ _ _
        apply wpAny_bind
        apply wpAny_rule
        apply wpAny_pure
        exact fin false σ H _ (inv_gens (J.pins_of fun p hp => by simp at hp) rfl (allBare_setGen J.bare hb) fun _ _ e => e) (hf rfl)
      | true =>
        simp only [if_true]
        have hsz1 : g < s1.gens.size := by
          have q : (s1.setGen g gs').gens.size = s1.gens.size := setGen_size _ _ _
          have : g + 1 ≤ (s1.setGen g gs').gens.size := hsz
          omega
        refine wpAny_pure ⟨plainId_quiet F.plain_all_loop _, ih (s1.setGen g gs') pa.1 J.nolimit ⟨gs', setGen_at hsz1, ?_⟩⟩
        exact ht rfl _ rfl (allBare_setGen (s := s1.setGen g gs') (allBare_setGen J.bare hb) rfl) rfl
    · intro s1 hp h' hk hsz
      obtain ⟨σ, H, J, q⟩ := hp
      show wpAny _ _ (rule _ >>= _) _ _ _
      apply wpAny_bind
      apply wpAny_rule
      apply wpAny_pure
      exact fin true σ H _ (inv_gens J rfl (allBare_setGen J.bare rfl) hk) q
    · intro e s1 he
      exact he.elim
theorem clo_none {cells : List (Str × Addr)} : ∀ {ns : List (Str × NameKind)} {acc : List (Str × Addr)}, (∀ y ∈ ns, y.2 ≠ .free) → cloFrom cells ns acc = acc
  | [], _, _ => rfl
  | (n, k) :: r, acc, h => by
    have hk : k ≠ .free := h (n, k) (by simp)
    unfold cloFrom
    cases k <;> first | exact absurd rfl hk | exact clo_none fun y hy => h y (List.mem_cons_of_mem _ hy)
theorem envs_loop {elt iter : Expr} {x : Str} {px pos : Pos} {scope : Scope} {it acc : Value} {env : Env} {A : Around} {l : List Env} (h : A.frames = some l) : (A.over (.compLoop (.GeneratorExp elt [⟨.Name x px, iter, [], 0⟩] scope pos) 0 it acc env) []).frames = some (env :: l) := by
  show pushEnvs (Code.envs (.compLoop (.GeneratorExp elt [⟨.Name x px, iter, [], 0⟩] scope pos) 0 it acc env)) (pushEnvs [] A.frames) = _
  rw [h]
  rfl
theorem room_loop {k : Nat} {A : Around} {elt iter : Expr} {x : Str} {px pos : Pos} {scope : Scope} {it acc : Value} {env : Env} (r : Room (k + 1) A) : Room k (A.in1.in1.over (.compLoop (.GeneratorExp elt [⟨.Name x px, iter, [], 0⟩] scope pos) 0 it acc env) []) := by
  have h1 : (A.in1.in1.over (.compLoop (.GeneratorExp elt [⟨.Name x px, iter, [], 0⟩] scope pos) 0 it acc env) []).depth = A.in1.in1.depth + 1 := rfl
  have h2 : (A.in1.in1.over (.compLoop (.GeneratorExp elt [⟨.Name x px, iter, [], 0⟩] scope pos) 0 it acc env) []).units = A.in1.in1.units + 3 := rfl
  have h3 : A.in1.in1.depth = A.depth := rfl
  have h4 : A.in1.in1.units = A.units + 1 + 1 := rfl
  have h5 := r.dp
  have h6 := r.un
  exact ⟨r.hd, by rw [h1, h3]; omega, by rw [h2, h4]; omega⟩
section
variable {X : Cx} {pins : List (Addr × Obj)} {σ : L2.St} {H : Hp} {s : Shared}
/-- made, not begun; what its whole walk by all leaves -/
def ReadyA (X : Cx) (pins : List (Addr × Obj)) (σ : L2.St) (te : TE) (xs : List V) (H2 : Hp) (a : Addr) (s5 : Shared) : Prop :=
  ∃ (go : Obj) (g : Nat), GenO go g ∧ s5.heap.get? a = some go ∧ s5.heap.NoLimit ∧ g < s5.gens.size ∧ ∀ Q : Bool → Hp → Prop, rdAll te xs H2 Q → ∃ (Y : Cx) (I t : Addr),
    Y.prog = X.prog ∧ Y.w = X.w ∧ (∃ gs, s5.gens[g]? = some gs ∧ gs.Goes (model Y.prog Y.w) X.A.in1.in1 (gEnd Y Q) (gProt Y a I t go Q) xs.length (.send .none) (s5.setGen g .running)) ∧
    ∀ b σ' H' s', Inv Y [] σ' H' s' → Q b H' → ∃ H'', Inv X pins σ H'' s' ∧ Q b H''
theorem gen_tup {c P : Addr} {elt iter : Expr} {x : Str} {px gpos : Pos} {scope : Scope} {te ti : TE} {k : Nat} {Q' : Value → Shared → Prop} {R : List V → Hp → Prop}
    (hr : Room (k + 1) X.A) (TB : GxR.TabB X.base X.mg c P) (hcode : X.env.code = .ref c) (S : OneN scope x) (hi : PE X iter ti)
    (hel : ∀ (s : Shared) (H : Hp) (C : Addr) (code : Value) (I : Addr), Room k (X.A.in1.in1.over (.compLoop (.GeneratorExp elt [⟨.Name x px, iter, [], 0⟩] scope gpos) 0 (.ref I) .none (genEnv scope [] C code builtinsNs X.env)) []) →
      PE (gxOf X x s H (genEnv scope [] C code builtinsNs X.env) (X.A.in1.in1.over (.compLoop (.GeneratorExp elt [⟨.Name x px, iter, [], 0⟩] scope gpos) 0 (.ref I) .none (genEnv scope [] C code builtinsNs X.env)) []) I) elt te)
    (hs : ∀ v, genFold iter X.env v = pure v) (I0 : Inv X pins σ H s)
    (h : ti σ H fun v H1 => ∃ (t : Addr) (xs : List V), v = .ref t ∧ SqT X.K H1 t xs ∧ GxR.TabG H1 P ∧ ∀ H2, GxR.Tabbed P H1 H2 → R xs H2)
    (hQ : ∀ xs H2 a s5, R xs H2 → ReadyA X pins σ te xs H2 a s5 → Q' (.ref a) s5) :
    wpAny (model X.prog X.w) X.A (eval (.GeneratorExp elt [⟨.Name x px, iter, [], 0⟩] scope gpos) X.env) Q' X.xe s := by
  have hcl : closureFor scope X.env = pure [] := by
    rw [closure_ok fun y hy hf => absurd hf (S.free y hy), clo_none S.free]
  have hroom : X.A.depth < recursionLimit := by
    have := hr.dp
    omega
  apply wpAny_GeneratorExp_make S.co hcl S.cell S.dot S.kind hroom ?_ hs
  apply thn (hi.run pins s σ H _ I0 h)
  rintro xv s1 ⟨v, H1, I1, r1, t, xs, rfl, hT, ⟨tb, hP, ht⟩, q1⟩
  obtain rfl : xv = Value.ref t := r1
  obtain ⟨its, rv, tp, _⟩ := I1.tuple hT
  apply wpAny_pyIter_tuple tp
  generalize ho : ({ cls := .type "tuple_iterator", data := .fields #[.ref t, .int 0 0] } : Obj) = it0
  have old : ∀ b u, s1.heap.get? b = some u → (s1.heap.push it0).get? b = some u := fun b u e => Heap.get?_push_of_some _ e
  have here : (s1.heap.push it0).get? s1.heap.objs.size = some it0 := by
    subst ho
    exact Heap.get?_push_size _ rfl
  have tabS : s1.heap.get? P = some { cls := .none, data := .fields tb } := I1.hok P _ hP
  have Plt : P < s1.heap.objs.size := Heap.lt_size tabS
  have lim2 : (s1.heap.push it0).NoLimit := I1.nolimit.push it0
  refine ⟨lim2, ?_⟩
  refine gcode (s2 := { s1 with heap := s1.heap.push it0 }) hcode (TB.code.keeps fun b u e => old b u (I1.bk b u e)) (old _ _ tabS) ht fun code h3 n3 tb3 hx hsz hP3 hmore ht3 => ?_
  obtain ⟨bm, ob, e1, e2, e3, e4, e5, e6, e7, e8⟩ := TB.bm
  have keep3 : ∀ b u, b ≠ P → s1.heap.get? b = some u → h3.get? b = some u := fun b u hb e => hx b u hb (old b u e)
  have nP : s1.heap.objs.size ≠ P := Nat.ne_of_gt Plt
  have here3 : h3.get? s1.heap.objs.size = some it0 := hx _ _ nP here
  have sz3 : s1.heap.objs.size < h3.objs.size := Heap.lt_size here3
  have cP : cStatics ≠ P := fun e => by
    obtain ⟨_, hns, _⟩ := I1.nolimit
    obtain ⟨o', es, ep, ho', hd', _⟩ := hns
    rw [e, tabS] at ho'
    cases ho'
    cases hd'
  apply wpAny_builtinsFor (m := X.mg) (by rw [I1.ok.glob]; exact ((I1.mod.glob.keeps I1.bk).push it0).extBut hx TB.gP) e1 e2 (keep3 _ _ e4 (I1.bk _ _ e5)) e6 e7 e8
  intro h5 hns hsb
  obtain ⟨more, em⟩ := hmore
  subst em
  have I4 := GxR.inv_tab (more := more) (h' := h3) (g' := s1.gens) (d' := s1.drawn) (t' := n3) I1 hP keep3 hP3 I1.bare
  have H2t : (upd H1 P (.tbl (tb ++ more))) s1.heap.objs.size = none := by
    rw [upd_ne nP]
    exact I1.hok.fresh (Nat.le_refl _)
  have T2 : SqT X.K (upd H1 P (.tbl (tb ++ more))) t xs := by
    have ne : ∀ u, H1 t = some u → (∀ q, u ≠ .tbl q) → t ≠ P := fun u e q z => by
      rw [z, hP] at e
      exact q tb (Option.some.inj e).symm
    rcases hT with (z | ⟨o, z⟩) | z
    · exact .inl (.inl (by rw [upd_ne (ne _ z fun q y => by cases y)]; exact z))
    · exact .inl (.inr ⟨o, by rw [upd_ne (ne _ z fun q y => by cases y)]; exact z⟩)
    · exact .inr z
  generalize hgo : ({ cls := .type "generator", data := .fields #[.int s1.gens.size 0, .str "<genexpr>" (n3 + 1), .str (X.env.qual ++ "<genexpr>") (n3 + 1 + 1)] } : Obj) = go
  have GO : GenO go s1.gens.size := by
    subst hgo
    exact ⟨rfl, ⟨_, _, rfl⟩, rfl⟩
  have k5 : ∀ b u, h3.get? b = some u → h5.get? b = some u := fun b u e => hsb.extBut b u (Nat.ne_of_lt (Heap.lt_size e)) (Heap.get?_push_of_some _ e)
  have k6 : ∀ b u, h3.get? b = some u → (h5.push go).get? b = some u := fun b u e => Heap.get?_push_of_some _ (k5 b u e)
  have sz5 : h5.objs.size = h3.objs.size + 1 := by rw [hsb.1, Heap.size_push]
  have hga : (h5.push go).get? h5.objs.size = some go := by
    subst hgo
    exact Heap.get?_push_size _ rfl
  refine hQ xs (upd H1 P (.tbl (tb ++ more))) _ _ (q1 _ ⟨⟨_, upd_same, ht3⟩, fun b hb => upd_ne hb⟩) ⟨go, s1.gens.size, GO, hga, I4.nolimit.keeps k6, by show _ < (s1.gens.push _).size; rw [Array.size_push]; exact Nat.lt_succ_self _, fun Q hrd => ?_⟩
  have tlt : t < s1.heap.objs.size := by
    obtain ⟨o, e, _⟩ := _root_.id tp
    exact Heap.lt_size e
  have hIt : t ≠ s1.heap.objs.size := Nat.ne_of_lt tlt
  have haI : h5.objs.size ≠ s1.heap.objs.size := by
    rw [sz5]
    omega
  have nst : ∀ b, s1.heap.objs.size ≤ b → b ∉ frs X.stack := fun b hb hm => by
    rcases List.mem_cons.mp (I1.stkSub b hm) with z | z
    · rw [z] at hb
      exact absurd (Nat.lt_of_lt_of_le I1.lt hb) (Nat.lt_irrefl _)
    · exact I1.nofs hb z
  have itd : it0.cls = .type "tuple_iterator" ∧ it0.data = .fields #[.ref t, .int ((0 : Nat) : Int) 0] := by
    subst ho
    exact ⟨rfl, rfl⟩
  have god : ∀ v, go.data ≠ .cell v := fun v q => by
    obtain ⟨nm, qn, d⟩ := GO.data
    rw [d] at q
    cases q
  have KY : (gxOf X x { s1 with heap := h3, gens := s1.gens, drawn := s1.drawn, toks := n3 } (upd H1 P (.tbl (tb ++ more))) (genEnv scope [] h3.objs.size code builtinsNs X.env)
      (X.A.in1.in1.over (.compLoop (.GeneratorExp elt [⟨.Name x px, iter, [], 0⟩] scope gpos) 0 (.ref s1.heap.objs.size) .none (genEnv scope [] h3.objs.size code builtinsNs X.env)) []) s1.heap.objs.size).Ok := by
    refine ⟨I4.ok.mod, S.kind, I4.ok.glob, rfl, Nat.le_refl _, fun y z c e _ => (by cases e), fun y hy => ?_, fun y c _ e => (by cases e), fun _ => hr.hd, envs_loop I4.ok.frames, .inr ⟨rfl, rfl⟩, fun b hb => ?_, fun b o e => I4.bs b o e, Nat.le_trans I4.ok.bsz I4.sz, fun b o e hb => ?_, fun b hb => ?_, I4.stack, I4.stkFree⟩
    · have hy' : scope.names.lookup y = some .cell ∨ scope.names.lookup y = some .free := hy
      rcases hy' with z | z
      · exact absurd rfl (S.cell _ (PySem.mem_of_lookup z))
      · exact absurd rfl (S.free _ (PySem.mem_of_lookup z))
    · rw [List.mem_singleton.mp hb]
      exact ⟨Nat.ne_of_lt sz3, fun y c e => (by cases e)⟩
    · rw [List.mem_singleton.mp hb] at e
      exact absurd (Heap.lt_size (I1.bk _ _ e)) (Nat.lt_irrefl _)
    · rw [List.mem_singleton.mp hb]
      exact nst _ (Nat.le_refl _)
  refine ⟨gxOf X x { s1 with heap := h3, gens := s1.gens, drawn := s1.drawn, toks := n3 } (upd H1 P (.tbl (tb ++ more))) (genEnv scope [] h3.objs.size code builtinsNs X.env)
      (X.A.in1.in1.over (.compLoop (.GeneratorExp elt [⟨.Name x px, iter, [], 0⟩] scope gpos) 0 (.ref s1.heap.objs.size) .none (genEnv scope [] h3.objs.size code builtinsNs X.env)) []) s1.heap.objs.size, s1.heap.objs.size, t, rfl, rfl,
    ⟨_, Array.getElem?_push_size .., rfl, seg_allStart (Aw := X.A.in1.in1) hr.hd rfl rfl S rfl rfl (by show _ ∈ [_]; simp) haI hIt rfl rfl (hel _ _ _ _ _ (room_loop hr)) T2 god ⟨[none, none], it0, rfl, rfl, itd.1, itd.2, ?_⟩ hrd⟩, fun b σ' H' s' J q => ⟨H', I4.call' (ch := [s1.heap.objs.size]) J.os J.base J.hok J.bare fun b hb => ?_, q⟩⟩
  · refine ⟨KY, rfl, allBare_setGen (AllBare.push I1.bare rfl) rfl, Un.kept k6, ⟨_, hns.push _, fun i y v _ h2 _ => ?_⟩, fun y c e => (by cases e), I4.hok.fresh (Nat.le_refl _), fun y c e => (by cases e), fun p hp => ?_, I4.hok.kept k6, rfl⟩
    · match i, h2 with
      | 0, h2 => cases h2
      | 1, h2 => cases h2
      | n + 2, h2 => cases h2
    · rcases List.mem_cons.mp (show p ∈ [(h5.objs.size, go), (s1.heap.objs.size, it0)] from hp) with rfl | hp
      · exact ⟨hga, I4.hok.fresh (show h3.objs.size ≤ h5.objs.size by omega), (by show h5.objs.size ≠ h3.objs.size; omega), nst _ (show s1.heap.objs.size ≤ h5.objs.size by omega), god⟩
      · rw [List.mem_singleton] at hp
        subst hp
        exact ⟨k6 _ _ here3, H2t, Nat.ne_of_lt sz3, nst _ (Nat.le_refl _), fun v q => by rw [itd.2] at q; cases q⟩
  · rw [List.mem_singleton.mp hb]
    refine ⟨.inr I1.sz, Nat.ne_of_gt I1.lt, fun y c e z => ?_, fun p hp z => ?_⟩
    · obtain ⟨v, o, e2, _⟩ := I1.cell y c e
      have := Heap.lt_size e2
      rw [z] at this
      exact Nat.lt_irrefl _ this
    · have := Heap.lt_size (I1.pin p hp).1
      rw [z] at this
      exact Nat.lt_irrefl _ this
end
section
variable {X : Cx}
/-- all(e for x in t), t a tuple: the def's table may have grown when the first is asked -/
def tAllT (K : PySem.W.Frag) (P : Addr) (te ti : TE) : TE := fun σ H Q => ti σ H fun v H1 =>
  ∃ (t : Addr) (xs : List V), v = .ref t ∧ SqT K H1 t xs ∧ GxR.TabG H1 P ∧ ∀ H2, GxR.Tabbed P H1 H2 → rdAll te xs H2 fun b H' => Q (.bl b) H'
theorem pe_allT {c P : Addr} {elt iter : Expr} {x : Str} {px p pos gpos : Pos} {scope : Scope} {te ti : TE} {k : Nat}
    (hr : Room (k + 1) X.A) (hg : Gl X "all") (hm : X.mg "all" = none) (TB : GxR.TabB X.base X.mg c P) (hcode : X.env.code = .ref c) (S : OneN scope x) (hi : PE X iter ti)
    (hel : ∀ (s : Shared) (H : Hp) (C : Addr) (code : Value) (I : Addr), Room k (X.A.in1.in1.over (.compLoop (.GeneratorExp elt [⟨.Name x px, iter, [], 0⟩] scope gpos) 0 (.ref I) .none (genEnv scope [] C code builtinsNs X.env)) []) →
      PE (gxOf X x s H (genEnv scope [] C code builtinsNs X.env) (X.A.in1.in1.over (.compLoop (.GeneratorExp elt [⟨.Name x px, iter, [], 0⟩] scope gpos) 0 (.ref I) .none (genEnv scope [] C code builtinsNs X.env)) []) I) elt te)
    (hs : ∀ v, genFold iter X.env v = pure v) (hb : bootBuiltins "all" = some (.builtin "all") := by decide +kernel)
    (he : starEach [.GeneratorExp elt [⟨.Name x px, iter, [], 0⟩] scope gpos] X.env = (false, eval (.GeneratorExp elt [⟨.Name x px, iter, [], 0⟩] scope gpos) X.env) :: starEach [] X.env := by rfl) :
    PE X (.Call (.Name "all" p) [.GeneratorExp elt [⟨.Name x px, iter, [], 0⟩] scope gpos] [] pos) (tAllT X.K P te ti) := by
  constructor
  intro pins s σ H Q I want
  have hroom : X.A.depth < recursionLimit := by
    have := hr.dp
    omega
  apply wpAny_Call_Name_kw (ld_blt I hg hm hb ?_)
  apply PyProof.Rows.callWith_builtin1 ?_ he (by rfl)
  rw [he]
  show wpAny _ _ (spliced ((false, eval (.GeneratorExp elt [⟨.Name x px, iter, [], 0⟩] scope gpos) X.env) :: backTo pos (starEach [] X.env))) _ _ s
  apply Calls.spliced_cons (gen_tup (R := fun xs H2 => rdAll te xs H2 fun b H' => Q (.bl b) H') hr TB hcode S hi hel hs I want ?_)
  intro xs H2 a s5 k5 ready
  obtain ⟨go, g, GO, ha, lim, _, fin⟩ := ready
  obtain ⟨Y, I', t, eP, eW, hgo, back⟩ := fin _ k5
  apply Calls.spliced_nil
  apply call_function_tree F.kind_all F.plain_all F.entry_all (F.args_all1 _)
  unfold Builtin.«all»
  refine wpAny_bind (m := oneArg "all" _) (wpAny_pure ?_)
  refine wpAny_bind (wpAny_pyIter_gen (GO.at ha) ?_)
  refine wpAny_pure ⟨plainId_quiet F.plain_all_loop _, ?_⟩
  have key := all_loop (Y := Y) (A := X.A) (R := fun r s' => match r with | .ok (.ret v) => EP X pins σ Q v s' | .ok _ => False | .error e => X.xe e s') hr.hd hroom GO (fun b σ' H' s' J q => by
    obtain ⟨H'', J2, q2⟩ := back b σ' H' s' J q
    exact ⟨.bl b, H'', J2, rfl, q2⟩) xs.length s5 ha lim hgo
  rw [eP, eW] at key
  exact key
end
/-- for x in (a if c else b) -/
def iIf (tc : TT) (wa wb : TI) : TI := fun σ H R => tc σ H fun b H1 => if b = true then wa σ H1 R else wb σ H1 R
theorem pi_if {X : Cx} {tg c a b : Expr} {pos : Pos} {tc : TT} {wa wb : TI} (hc : PT X c tc) (ha : PI X tg a wa) (hb : PI X tg b wb) : PI X tg (.IfExp c a b pos) (iIf tc wa wb) := by
  constructor
  intro pins s σ H R I h
  apply wpAny_IfExp
  apply thn (hc.run pins s σ H _ I h)
  rintro d s1 ⟨H1, I1, q1⟩
  cases d with
  | true => exact ha.run pins s1 σ H1 R I1 q1
  | false => exact hb.run pins s1 σ H1 R I1 q1
end Jf
set_option Elab.async false
set_option linter.all false
set_option maxRecDepth 100000
set_option maxHeartbeats 4000000
/-! ### enumerate(t) of a tuple -/
namespace PySem
open AutoSeq1 (wpAny_loadPart')
section
variable {prog : Program} {w : World} {A : Around} {E : Value → Shared → Prop} {s : Shared} {e it t : Addr} {i : Nat} {items : Array Value} {x old : Value}
/-- the iterator within hands on an item -/
theorem jf_next {Q : Value → Shared → Prop} (a : s.heap.IsTupleIter it t i) (b : s.heap.IsTuple t items) (hx : items[i]? = some x) (k : ∀ h', h'.IsTupleIter it t (i + 1) → Heap.SameBut it s.heap h' → Q x { s with heap := h' }) :
    wpAny (model prog w) A (Builtin.SmallTypes.nextOf (.ref it)) Q E s := by
  obtain ⟨u, e1, e2, e3⟩ := id a
  obtain ⟨v, f1, _, n, f2⟩ := id b
  have S := F.slot_tuple_iterator_next
  have no : ¬ ((Value.ref t == Value.none) = true) := Bool.false_ne_true
  unfold Builtin.SmallTypes.nextOf
  refine wpAny_bind (wpAny_callSpecial?_slot (name := Str.ofString "__next__") a.typeIs S (wpAny_call_entry S a.typeIs F.entry_tuple_iterator_next ?_ (F.args_tuple_iterator_next_1 _)))
  refine wpAny_bind (m := field (.ref it) 0) (wpAny_field e1 e3 (x := .ref t) rfl ?_)
  dsimp only
  rw [if_neg no]
  refine wpAny_bind (m := field (.ref it) 1) (wpAny_field e1 e3 (x := .int i 0) rfl (wpAny_bind (m := seqItems? (.ref t)) (wpAny_seqItems f1 f2 ?_)))
  simp only [Int.toNat_natCast, hx]
  refine wpAny_bind (wpAny_setField e1 e3 (by simp) (wpAny_pure ⟨x, rfl, wpAny_pure (k _ ⟨_, Heap.get?_update_self _ e1 (Obj.isFreed_of_fields (Obj.data_mapFields e3 _)), (Obj.cls_mapFields ..).trans e2, ?_⟩ (Heap.SameBut.update ..))⟩))
  rw [Obj.data_mapFields e3]
  simp [rawInt]
/-- .. or has none -/
theorem jf_none {Q : Value → Shared → Prop} (hh : A.handled = none) (a : s.heap.IsTupleIter it t i) (b : s.heap.IsTuple t items) (hx : items[i]? = none)
    (k : ∀ h' y, Heap.ExtBut it s.heap h' → (∃ o, h'.get? y = some o ∧ o.cls = .type "StopIteration") → E (.ref y) { s with heap := h' }) : wpAny (model prog w) A (Builtin.SmallTypes.nextOf (.ref it)) Q E s := by
  obtain ⟨u, e1, e2, e3⟩ := id a
  obtain ⟨v, f1, _, n, f2⟩ := id b
  have S := F.slot_tuple_iterator_next
  have no : ¬ ((Value.ref t == Value.none) = true) := Bool.false_ne_true
  unfold Builtin.SmallTypes.nextOf
  refine wpAny_bind (wpAny_callSpecial?_slot (name := Str.ofString "__next__") a.typeIs S (wpAny_call_entry S a.typeIs F.entry_tuple_iterator_next ?_ (F.args_tuple_iterator_next_1 _)))
  refine wpAny_bind (m := field (.ref it) 0) (wpAny_field e1 e3 (x := .ref t) rfl ?_)
  dsimp only
  rw [if_neg no]
  refine wpAny_bind (m := field (.ref it) 1) (wpAny_field e1 e3 (x := .int i 0) rfl (wpAny_bind (m := seqItems? (.ref t)) (wpAny_seqItems f1 f2 ?_)))
  simp only [Int.toNat_natCast, hx]
  refine wpAny_bind (wpAny_rule (wpAny_bind (wpAny_setField e1 e3 (by simp) (wpAny_bind (m := newExc (.type "StopIteration") []) ?_))))
  simp only [newExc, newTuple]
  refine wpAny_bind (wpAny_newObj_type (wpAny_bind (m := firstArgMember _ _) (wpAny_of_eq (a := Value.none) (by first | rfl | (simp only [firstArgMember]; rfl)) (wpAny_newObj_type ?_ (by size_fits)))) (by size_fits))
  simp only [raiseNew]
  refine wpAny_bind (wpAny_handled ?_)
  first | rw [show A.in1.handled = none from hh] | rw [hh]
  exact wpAny_bind (wpAny_pure (wpAny_throw (k _ _ (((Heap.SameBut.update ..).extBut.push _).push _) ⟨_, Heap.get?_push_size _ rfl, rfl⟩)))
/-- enumerate's turn, whatever stands within: what it needs of the turn within is told by hn -/
theorem jf_enum {P : Heap → Prop} {Q : Value → Shared → Prop} (he : IsEnum s.heap e it i old) (hne : e ≠ it)
    (hn : ∀ {B : Around} {R : Value → Shared → Prop} {Ex : Value → Shared → Prop}, (∀ h', P h' → Heap.SameBut it s.heap h' → R x { s with heap := h' }) → wpAny (model prog w) B (Builtin.SmallTypes.nextOf (.ref it)) R Ex s)
    (hP : ∀ h h', P h → (∀ b o, b ≠ e → h.get? b = some o → h'.get? b = some o) → P h')
    (k : ∀ h', IsEnumOut h' e it ((i : Int) + 1) x s.heap.objs.size → P h' → h'.get? s.heap.objs.size = some { cls := .type "tuple", data := .seq #[.int i s.toks, x] } → h'.objs.size = s.heap.objs.size + 1 →
      (∀ b o, b ≠ e → b ≠ it → s.heap.get? b = some o → h'.get? b = some o) → Q (.ref s.heap.objs.size) { s with heap := h', toks := s.toks + 1 }) :
    wpAny (model prog w) A (Builtin.«enumerate.__next__» ⟨[.ref e], []⟩) (fun f s' => ∃ v, f = .done (.ret v) ∧ Q v s') E s := by
  obtain ⟨hp, g, d, tk, os⟩ := s
  have lt : e < hp.objs.size := Heap.lt_size he
  refine wpAny_bind (m := field (.ref e) 2) (wpAny_field he rfl (x := .ref it) rfl (wpAny_bind (hn fun g1 p1 (b1 : Heap.SameBut it hp g1) => ?_)))
  have q1 : IsEnum g1 e it i old := (b1.2 e hne).trans he
  refine wpAny_bind (m := field (.ref e) 3) (wpAny_field q1 rfl (x := rawInt i) rfl (wpAny_bind (m := field (.ref e) 4) (wpAny_field q1 rfl (x := .none) rfl (wpAny_bind (m := mkInt i) (wpAny_mkInt ?_)))))
  refine wpAny_bind (m := setField (.ref e) 3 (rawInt ((i : Int) + 1))) (wpAny_setField_rec q1 (by simp) fun g2 (q2 : IsEnum g2 e it ((i : Int) + 1) old) (b2 : Heap.SameBut e g1 g2) => ?_)
  refine wpAny_bind (m := setField (.ref e) 4 .none) (wpAny_setField_rec q2 (by simp) fun g3 (q3 : IsEnum g3 e it ((i : Int) + 1) old) (b3 : Heap.SameBut e g2 g3) => ?_)
  refine wpAny_bind (m := newTuple [.int i tk, x]) (wpAny_newTuple ?_)
  have z3 : g3.objs.size = hp.objs.size := by rw [b3.1, b2.1, b1.1]
  have b13 : ∀ b o, b ≠ e → g1.get? b = some o → g3.get? b = some o := fun b o n y => b3.extBut b o n (b2.extBut b o n y)
  generalize hg : g3.push { cls := .type "tuple", data := .seq #[.int i tk, x] } = g4
  have old4 : ∀ b o, g3.get? b = some o → g4.get? b = some o := fun b o y => hg ▸ Heap.get?_push_of_some _ y
  have tup4 : g4.get? hp.objs.size = some { cls := .type "tuple", data := .seq #[.int i tk, x] } := by
    rw [← hg, ← z3]
    exact Heap.get?_push_size _ rfl
  have z4 : g4.objs.size = hp.objs.size + 1 := by rw [← hg, Heap.size_push, z3]
  have q4 : IsEnum g4 e it ((i : Int) + 1) old := old4 _ _ q3
  rw [z3]
  refine wpAny_bind (m := Builtin.SmallTypes.ownedTupleIsFree (.ref e)) ?_
  unfold Builtin.SmallTypes.ownedTupleIsFree
  refine wpAny_bind (wpAny_field q4 rfl (x := .none) rfl (wpAny_pure ?_))
  simp only [if_true]
  refine wpAny_bind (wpAny_rule (wpAny_bind (wpAny_field q4 rfl (x := old) rfl (wpAny_bind (wpAny_setField_rec q4 (by simp) fun g5 (q5 : IsEnum g5 e it ((i : Int) + 1) x) (b5 : Heap.SameBut e g4 g5) => ?_)))))
  refine wpAny_bind (m := Builtin.SmallTypes.ownedTupleHandOut (.ref e) (.ref hp.objs.size)) ?_
  unfold Builtin.SmallTypes.ownedTupleHandOut
  refine wpAny_bind (wpAny_setField_rec q5 (by simp) fun g6 (q6 : IsEnumOut g6 e it ((i : Int) + 1) x hp.objs.size) (b6 : Heap.SameBut e g5 g6) => ?_)
  refine wpAny_setField_rec q6 (by simp) fun g7 (q7 : IsEnumOut g7 e it ((i : Int) + 1) x hp.objs.size) (b7 : Heap.SameBut e g6 g7) => ?_
  have b47 : ∀ b o, b ≠ e → g4.get? b = some o → g7.get? b = some o := fun b o n y => b7.extBut b o n (b6.extBut b o n (b5.extBut b o n y))
  refine wpAny_bind (wpAny_letGo (wpAny_pure ⟨_, rfl, k g7 q7 (hP g1 g7 p1 fun b o n y => b47 b o n (old4 b o (b13 b o n y))) (b47 _ _ (Nat.ne_of_gt lt) tup4) ?_ fun b o n m y => b47 b o n (old4 b o (b13 b o n (b1.extBut b o m y)))⟩))
  rw [b7.1, b6.1, b5.1, z4]
theorem jf_enumT {Q : Option Value → Shared → Prop} (he : IsEnum s.heap e it i old) (a : s.heap.IsTupleIter it t i) (b : s.heap.IsTuple t items) (hx : items[i]? = some x) (hne : e ≠ it)
    (k : ∀ h', IsEnumOut h' e it ((i : Int) + 1) x s.heap.objs.size → h'.IsTupleIter it t (i + 1) → h'.get? s.heap.objs.size = some { cls := .type "tuple", data := .seq #[.int i s.toks, x] } → h'.objs.size = s.heap.objs.size + 1 →
      (∀ b o, b ≠ e → b ≠ it → s.heap.get? b = some o → h'.get? b = some o) → Q (some (.ref s.heap.objs.size)) { s with heap := h', toks := s.toks + 1 }) : wpAny (model prog w) A (pyNext (.ref e)) Q E s := by
  have T : s.TypeIs (.ref e) "enumerate" := ⟨_, he, rfl⟩
  unfold pyNext
  refine wpAny_bind (wpAny_attempt (wpAny_callSpecial?_slot (name := Str.ofString "__next__") T F.slot_enumerate_next (wpAny_call_entry F.slot_enumerate_next T F.entry_enumerate_next
    (jf_enum (P := fun h => h.IsTupleIter it t (i + 1)) he hne (fun q => jf_next a b hx q) (fun h h' p y => ?_) fun h' c1 c2 c3 c4 c5 => wpAny_pure (k h' c1 c2 c3 c4 c5)) (F.args_enumerate_next_1 _))))
  obtain ⟨o, h1, h2⟩ := p
  exact ⟨o, y it o hne.symm h1, h2⟩
theorem jf_enumE {Q : Option Value → Shared → Prop} (hh : A.handled = none) (he : IsEnum s.heap e it i old) (a : s.heap.IsTupleIter it t i) (b : s.heap.IsTuple t items) (hx : items[i]? = none) (k : ∀ h', Heap.ExtBut it s.heap h' → Q none { s with heap := h' }) :
    wpAny (model prog w) A (pyNext (.ref e)) Q E s := by
  have T : s.TypeIs (.ref e) "enumerate" := ⟨_, he, rfl⟩
  unfold pyNext
  refine wpAny_bind (wpAny_attempt (wpAny_callSpecial?_slot (name := Str.ofString "__next__") T F.slot_enumerate_next (wpAny_call_entry F.slot_enumerate_next T F.entry_enumerate_next
    (wpAny_bind (m := field (.ref e) 2) (wpAny_field he rfl (x := .ref it) rfl (wpAny_bind (jf_none hh a b hx fun h' y g ⟨o, g1, g2⟩ => ?_)))) (F.args_enumerate_next_1 _))))
  exact wpAny_bind (wpAny_isInstance (T := "StopIteration") (b := true) ⟨o, g1, g2⟩ isSubtype_stop (wpAny_pure (k _ g)))
end
/-- enumerate(t) -/
theorem jf_newT (t : Addr) (o : Obj) (items : Array Value) (n : Nat) (hc : o.cls = .type "tuple") (hd : o.data = .seq items n) :
    Meets (Builtin.«enumerate.__new__» ⟨[.type "enumerate", .ref t], []⟩) (fun _ R s => s.heap.get? t = some o ∧
      R (.ok (.ret (.ref (s.heap.push { cls := .type "tuple_iterator", data := .fields #[.ref t, .int 0 0] }).objs.size)))
        { s with heap := (s.heap.push { cls := .type "tuple_iterator", data := .fields #[.ref t, .int 0 0] }).push { cls := .type "enumerate", data := .fields #[.none, .bool false, .ref s.heap.objs.size, rawInt 0, .none, .none] } }) :=
  .of_wp fun prog w A R s h => by
    obtain ⟨hp, g, dr, tk, os⟩ := s
    obtain ⟨ht, h⟩ := h
    have sub := sub_enumerate
    have hT : Heap.IsTuple (Shared.heap ⟨hp, g, dr, tk, os⟩) t items := ⟨_, ht, hc, n, hd⟩
    wp_walk using wpAny_loadPart' ht
    refine wpAny_stack_any fun st => wpAny_pure ?_
    split
    · rename_i c _ _ _ _ _
      cases (c == Value.type "enumerate") <;>
      · wp_walk using wpAny_loadPart' ht, wpAny_pyIter_tuple hT
        exact ⟨_, rfl, h⟩
    · wp_walk using wpAny_loadPart' ht, wpAny_pyIter_tuple hT
      exact ⟨_, rfl, h⟩
theorem jf_callT {prog : Program} {w : World} {A : Around} {E : Value → Shared → Prop} {s : Shared} {t : Addr} {items : Array Value} {Q : Value → Shared → Prop} (hT : s.heap.IsTuple t items)
    (h : ∀ h', IsEnum h' (s.heap.objs.size + 1) s.heap.objs.size 0 .none → h'.IsTupleIter s.heap.objs.size t 0 → h'.objs.size = s.heap.objs.size + 2 → (∀ b o, s.heap.get? b = some o → h'.get? b = some o) → Q (.ref (s.heap.objs.size + 1)) { s with heap := h' }) :
    wpAny (model prog w) A (call (.type "enumerate") [.ref t]) Q E s := by
  obtain ⟨o, ho, hc, n, hd⟩ := hT
  refine callType_new F.called_enumerate (by decide) (F.typeCall_enumerate_1 _) (F.newCall_enumerate_1 _) (fun obj => F.args_object_init_2 obj _) F.entry_enumerate_new (jf_newT t o items n hc hd) ⟨ho, ?_⟩
  have z : (s.heap.push { cls := .type "tuple_iterator", data := .fields #[.ref t, .int 0 0] }).objs.size = s.heap.objs.size + 1 := Heap.size_push ..
  show _ ∧ _
  rw [z]
  have he := Heap.get?_push_size (s.heap.push { cls := .type "tuple_iterator", data := .fields #[.ref t, .int 0 0] }) (o := { cls := .type "enumerate", data := .fields #[.none, .bool false, .ref s.heap.objs.size, rawInt 0, .none, .none] }) rfl
  rw [z] at he
  exact ⟨⟨_, he, rfl⟩, h _ he ⟨_, Heap.get?_push_of_some _ (Heap.get?_push_size _ rfl), rfl, rfl⟩ (by rw [Heap.size_push, z]) fun b o y => Heap.get?_push_of_some _ (Heap.get?_push_of_some _ y)⟩
end PySem
namespace Jf
open PySem PySem.Spec PyProof.Rows L2 Evl
/-- the tuple at a, each item in a new pair with its number -/
def IteT (K : PySem.W.Frag) (a : Addr) : It :=
  ⟨fun i H => ∃ (xs : List V) (x : V), SqT K H a xs ∧ xs[i]? = some x, fun i H v H' => ∃ T x, v = .ref T ∧ H T = none ∧ H' = upd H T (.tup [.int (i : Nat), x]) ∧ ∀ xs, SqT K H a xs → xs[i]? = some x, fun i H => ∃ xs : List V, SqT K H a xs ∧ xs.length ≤ i⟩
theorem turn_enumT {P : Program} {w : World} {K : PySem.W.Frag} {elts : List Expr} {kk : Nat} {tpos : Pos} (a e it : Addr) :
    Turn P w K (.Tuple elts kk tpos) (IteT K a) [e, it] e (fun i h => (∃ old, IsEnum h e it ((i : Nat) : Int) old) ∧ h.IsTupleIter it a i ∧ e ≠ it) where
  mem := by simp
  obj := fun i h st b hb => by
    obtain ⟨⟨old, he⟩, ⟨o, ho, _, hd⟩, _⟩ := st
    rcases List.mem_cons.mp hb with rfl | hb
    · exact ⟨_, he, fun v q => nomatch q⟩
    · rw [List.mem_singleton.mp hb]
      exact ⟨o, ho, fun v q => by rw [hd] at q; cases q⟩
  keep := fun i h h' st k => by
    obtain ⟨⟨old, he⟩, ⟨o, ho, hr⟩, ne⟩ := st
    exact ⟨⟨old, k e (by simp) _ he⟩, ⟨o, k it (by simp) o ho, hr⟩, ne⟩
  item := by
    intro X hP hw hK hc i pins s σ H E I hf st hg
    subst hP hw hK
    obtain ⟨⟨old, he⟩, hit, ne⟩ := st
    obtain ⟨xs, x, hq, hx⟩ := hg
    obtain ⟨its, rv, tp, _⟩ := I.tuple hq
    obtain ⟨u, hu, ru⟩ := rv.get hx
    have le : e < s.heap.objs.size := Heap.lt_size he
    have li : it < s.heap.objs.size := by
      obtain ⟨_, q, _⟩ := hit
      exact Heap.lt_size q
    refine jf_enumT he hit tp (x := u) (by simpa using hu) ne fun h1 c1 c2 c3 c4 c5 => ⟨_, rfl, wpAny_letOwnedTupleGo_enum (s := { s with heap := h1, toks := s.toks + 1 }) c1 fun h2 d1 d2 => ?_⟩
    have at2 : h2.get? s.heap.objs.size = some { cls := .type "tuple", data := .seq #[.int i s.toks, u] } := (d2.2 _ (Nat.ne_of_gt le)).trans c3
    have I2 : Inv X pins σ (upd H s.heap.objs.size (.tup [.int (i : Nat), x])) { s with heap := h2, toks := s.toks + 1 } := by
      refine I.turnedNew (ch := [e, it]) (fun b o hb q => ?_) hf (Nat.le_refl _) ⟨by show 2 ≤ sizeLine; decide, [.int i s.toks, u], .cons ⟨_, rfl⟩ (.cons ru .nil), ⟨_, at2, rfl, _, rfl⟩⟩
      simp only [List.mem_cons, List.not_mem_nil, or_false, not_or] at hb
      exact (d2.2 b hb.1).trans (c5 b o hb.1 hb.2 q)
    refine ⟨.ref s.heap.objs.size, _, I2, rfl, ⟨_, x, rfl, I.hok.fresh (Nat.le_refl _), rfl, fun ys hy => by rw [I.tuple_inj hy hq]; exact hx⟩, ⟨⟨u, ?_⟩, ?_, ne⟩, fun b hb => ?_⟩
    · rw [show ((i + 1 : Nat) : Int) = (i : Int) + 1 by omega]
      exact d1
    · obtain ⟨o, g1, g2⟩ := c2
      exact ⟨o, (d2.2 it ne.symm).trans g1, g2⟩
    · have lb : b < s.heap.objs.size := by
        rcases List.mem_cons.mp hb with rfl | hb
        · exact le
        · rw [List.mem_singleton.mp hb]
          exact li
      rw [upd_ne (Nat.ne_of_lt lb)]
      exact (hf b hb).1
  done := by
    intro X hP hw hK hc i pins s σ H E I hf st hg
    subst hP hw hK
    obtain ⟨⟨old, he⟩, hit, _⟩ := st
    obtain ⟨xs, hq, hx⟩ := hg
    obtain ⟨its, rv, tp, _⟩ := I.tuple hq
    obtain ⟨f0, f1, f2, f3, f4, f5⟩ := hf it (by simp)
    have := rv.length
    exact jf_enumE (I.ok.hd hc) he hit tp (by simp; omega) fun h' g => ⟨rfl, I.turned (t' := s.toks) (fun b o hb q => g b o hb q) f0 f1 f3 f4 f5⟩
  self := fun A i s Q E st h => by
    obtain ⟨⟨_, he⟩, _⟩ := st
    exact wpAny_pyIter_enum he h
def iEnumT (K : PySem.W.Frag) (ta : TA) : TI := fun σ H R => ta σ H fun vs H1 => ∃ a xs, vs = [.ref a] ∧ SqT K H1 a xs ∧ R (IteT K a) H1
theorem pi_enumT {X : Cx} {e : Expr} {ta : TA} {p pos tpos : Pos} {elts : List Expr} {kk : Nat} (hg : Gl X "enumerate") (hm : X.mg "enumerate" = none) (ha : PA X [e] ta) (hs : starEach [e] X.env = [(false, eval e X.env)] := by rfl) :
    PI X (.Tuple elts kk tpos) (.Call (.Name "enumerate" p) [e] [] pos) (iEnumT X.K ta) := by
  refine ⟨fun pins s σ H R I h => ?_⟩
  refine Call_ (ld_blt I hg hm boot_enumerate (PyProof.Rows.callWith_type1 (thn (ha.run pos pins s σ H _ I h) fun us s1 ⟨vs, H1, I1, r1, a, xs, ex, hq, q⟩ => ?_) hs rfl))
  subst ex
  obtain ⟨u, rfl, ru⟩ := vals1 r1
  cases ru
  obtain ⟨its, _, tp, _⟩ := I1.tuple hq
  refine jf_callT tp fun h' c1 c2 c3 c4 => wpAny_pyIter_enum c1 ⟨s1.heap.objs.size + 1, [s1.heap.objs.size + 1, s1.heap.objs.size], _, _, H1, rfl, I1.kept (t' := s1.toks) c4, turn_enumT a (s1.heap.objs.size + 1) s1.heap.objs.size, ⟨⟨.none, c1⟩, c2, Nat.succ_ne_self _⟩, fun b hb => ?_, q⟩
  have hle : s1.heap.objs.size ≤ b := by
    rcases List.mem_cons.mp hb with rfl | hb
    · exact Nat.le_succ _
    · rw [List.mem_singleton.mp hb]
      exact Nat.le_refl _
  exact I1.fpOk hle (I1.hok.fresh hle)
end Jf
set_option Elab.async false
set_option linter.all false
set_option maxRecDepth 100000
set_option maxHeartbeats 4000000
namespace Jf
open PySem PySem.Spec PyProof.Rows L2 Evl GxR GenW
/-! ### all(e for .. in an iterable of any kind that the layer walks), e of any kind that it reads -/
/-- the inner scope: its names, nothing captured -/
structure ManyN (scope : Scope) (xs : List Str) : Prop where
  kind : scope.kind = .function
  co : scope.isCoroutine = false
  cell : ∀ y ∈ scope.names, y.2 ≠ .cell
  dot : scope.names.lookup (".0" : Str) = some NameKind.local
  free : ∀ y ∈ scope.names, y.2 ≠ .free
/-- the inner context: the callers' frames behind it, the walked objects free to turn -/
def gyOf (X : Cx) (xs : List Str) (s : Shared) (H : Hp) (cenv : Env) (B : Around) (fp : List Addr) : Cx where
  prog := X.prog
  w := X.w
  K := X.K
  mg := X.mg
  base := X.base
  A := B
  N := ".0" :: xs
  s_0 := s
  H_0 := H
  env := cenv
  outer := X.stack
  stack := cenv :: X.stack
  ex := fp
  fn := fun _ => true
  calm := true
  pn := []
  xe := fun _ _ => False
/-- the reading: from the left, till one says no -/
def rdAllI (g : TG) (te : TE) (J : It) (L : Nat) : Nat → Nat → Hp → (Bool → Hp → Prop) → Prop
  | 0, i, H, Q => J.stop i H ∧ Q true H
  | n + 1, i, H, Q => J.go i H ∧ ∀ x H1, J.yld i H x H1 → ∀ σ : L2.St, σ.length = L → σ[0]? = some none → g x σ H1 fun σ2 H2 => σ2.length = L ∧ σ2[0]? = some none ∧ te σ2 H2 fun r H3 => ∃ b, r = .bl b ∧ (b = true → rdAllI g te J L n (i + 1) H3 Q) ∧ (b = false → Q false H3)
/-- where the generator stands -/
def GInv2 (Y : Cx) (a : Addr) (go : Obj) (fp : List Addr) (tn : Nat → Heap → Prop) (L i : Nat) (H : Hp) (s : Shared) : Prop :=
  ∃ (σ : L2.St) (ps : List (Addr × Obj)), σ.length = L ∧ σ[0]? = some none ∧ ps.map (·.1) = fp ∧ tn i s.heap ∧ Inv Y ((a, go) :: ps) σ H s
def gProt2 (Y : Cx) (a : Addr) (go : Obj) (fp : List Addr) (tn : Nat → Heap → Prop) (L : Nat) (Q : Bool → Hp → Prop) : Protocol := fun _ _ v s kap =>
  ∃ b i H, v = .bool b ∧ GInv2 Y a go fp tn L i H s ∧ (b = false → Q false H) ∧ (b = true → ∀ s', s'.os = s.os → AllBare s'.gens → s'.heap = s.heap → kap (.send .none) s')
section
variable {Y : Cx} {a it : Addr} {go : Obj} {fp : List Addr} {tn : Nat → Heap → Prop} {L i : Nat} {H : Hp} {s s' : Shared}
theorem GInv2.woke (h : GInv2 Y a go fp tn L i H s) (o : s'.os = s.os) (g : AllBare s'.gens) (e : s'.heap = s.heap) : GInv2 Y a go fp tn L i H s' := by
  obtain ⟨σ, ps, l, z, c, d, J⟩ := h
  refine ⟨σ, ps, l, z, c, by rw [e]; exact d, J.call' (ch := []) o ?_ ?_ g fun b z => by simp at z⟩
  · rw [e]
    exact Un.kept fun _ _ q => q
  · rw [e]
    exact J.hok
theorem objs_of {h : Heap} : ∀ {fp : List Addr}, (∀ b ∈ fp, ∃ o, h.get? b = some o ∧ ∀ v, o.data ≠ .cell v) → ∃ ps : List (Addr × Obj), ps.map (·.1) = fp ∧ ∀ p ∈ ps, h.get? p.1 = some p.2 ∧ ∀ v, p.2.data ≠ .cell v
  | [], _ => ⟨[], rfl, fun _ z => nomatch z⟩
  | b :: fp, q => by
    obtain ⟨o, h1, h2⟩ := q b List.mem_cons_self
    obtain ⟨ps, h3, h4⟩ := objs_of fun c hc => q c (List.mem_cons_of_mem _ hc)
    refine ⟨(b, o) :: ps, by rw [List.map_cons, h3], fun p hp => ?_⟩
    rcases List.mem_cons.mp hp with rfl | hp
    · exact ⟨h1, h2⟩
    · exact h4 p hp
end
section
variable {Y : Cx} {Aw : Around} {elt iter tg : Expr} {pos : Pos} {scope : Scope} {a it : Addr} {go : Obj} {fp : List Addr} {tn : Nat → Heap → Prop} {J : It} {L : Nat} {te : TE} {g : TG} {Q : Bool → Hp → Prop}
theorem seg_itLoop (hA : Aw.handled = none) (hY : Y.A = Aw.over (.compLoop (.GeneratorExp elt [⟨tg, iter, [], 0⟩] scope pos) 0 (.ref it) .none Y.env) []) (hco : Y.env.scope.isCoroutine = false) (hcl : Y.env.cells = []) (hex : ∀ b ∈ fp, b ∈ Y.ex) (ha : a ∉ fp) (hpn : Y.pn = [])
    (hcalm : Y.calm = true) (hxe : Y.xe = fun _ _ => False) (T : Turn Y.prog Y.w Y.K tg J fp it tn) (hg : PG Y tg g) (hel : PE Y elt te) :
    ∀ (n i : Nat) (H : Hp) (s₀ s : Shared), GInv2 Y a go fp tn L i H s → rdAllI g te J L n i H Q →
      Seg (model Y.prog Y.w) Aw (gEnd Y Q) (gProt2 Y a go fp tn L Q) n s₀ (.compLoop (.GeneratorExp elt [⟨tg, iter, [], 0⟩] scope pos) 0 (.ref it) .none Y.env)
        ((model Y.prog Y.w).den (.compLoop (.GeneratorExp elt [⟨tg, iter, [], 0⟩] scope pos) 0 (.ref it) .none Y.env)) [] s := by
  have free : ∀ {σ : L2.St} {ps : List (Addr × Obj)} {i : Nat} {H : Hp} {s : Shared}, ps.map (·.1) = fp → Inv Y ((a, go) :: ps) σ H s → Inv Y [(a, go)] σ H s ∧ ∀ b ∈ fp, FpOk Y [(a, go)] H b := fun {σ ps i H s} hm I => by
    refine ⟨I.pins_of fun p hp => I.pin p (List.mem_append_right _ (by
      rw [List.mem_singleton] at hp
      rw [hp]
      exact List.mem_cons_self)), fun b hb => ?_⟩
    rw [← hm] at hb
    obtain ⟨p, hp, rfl⟩ := List.mem_map.mp hb
    have q := I.pin p (List.mem_append_right _ (List.mem_cons_of_mem _ hp))
    refine ⟨q.2.1, q.2.2.1, q.2.2.2.1, .inl (hex _ (hm ▸ List.mem_map.mpr ⟨p, hp, rfl⟩)), (fun x c e => by rw [hcl] at e; cases e), fun r hr z => ?_⟩
    rw [hpn, List.nil_append, List.mem_singleton] at hr
    subst hr
    exact ha (by rw [← hm]; exact List.mem_map.mpr ⟨p, hp, z.symm⟩)
  intro n
  induction n with
  | zero =>
    intro i H s₀ s hG hr
    obtain ⟨σ, ps, l, z, hm, ht, I⟩ := hG
    obtain ⟨I1, hf⟩ := free (i := i) hm I
    show Seg _ Aw _ _ _ s₀ _ ((compTurn (.GeneratorExp elt [⟨tg, iter, [], 0⟩] scope pos) 0 (.ref it) .none Y.env).onRaise (leaving Y.env)) [] s
    rw [compTurn_gen, Sem.onRaise_eq_wrap]
    refine seg_bind_wrap (wpAny_standAt ?_)
    refine seg_bind_wrap ?_
    rw [← hY]
    refine wpAny_mono (T.done Y rfl rfl rfl hcalm i [(a, go)] s σ H (fun _ _ => False) I1 hf ht hr.1) ?_ fun _ _ x => x.elim
    rintro r s1 ⟨rfl, I2⟩
    exact seg_end (.ok .next) (.inl ⟨.inr rfl, σ, H, I2.pins_of fun p hp => by simp at hp, hr.2⟩)
  | succ n ih =>
    intro i H s₀ s hG hr
    obtain ⟨σ, ps, l, z, hm, ht, I⟩ := hG
    obtain ⟨I1, hf⟩ := free (i := i) hm I
    have pa := I1.pin (a, go) (List.mem_append_right _ List.mem_cons_self)
    show Seg _ Aw _ _ _ s₀ _ ((compTurn (.GeneratorExp elt [⟨tg, iter, [], 0⟩] scope pos) 0 (.ref it) .none Y.env).onRaise (leaving Y.env)) [] s
    rw [compTurn_gen, Sem.onRaise_eq_wrap]
    refine seg_bind_wrap (wpAny_standAt ?_)
    refine seg_bind_wrap ?_
    rw [← hY]
    refine wpAny_mono (T.item Y rfl rfl rfl hcalm i [(a, go)] s σ H (fun _ _ => False) I1 hf ht hr.1) ?_ fun _ _ x => x.elim
    rintro r s1 ⟨u, rfl, w1⟩
    refine seg_bind_wrap ?_
    rw [← hY]
    refine wpAny_mono w1 ?_ fun _ _ x => x.elim
    rintro _ s2 ⟨x, H1, I2, ru, hy, ht2, hnone⟩
    obtain ⟨ps2, hm2, ho2⟩ := objs_of (T.obj (i + 1) s2.heap ht2)
    have I3 : Inv Y ((a, go) :: ps2) σ H1 s2 := I2.pins_of fun p hp => by
      rcases List.mem_cons.mp hp with rfl | hp
      · exact I2.pin _ (List.mem_append_right _ List.mem_cons_self)
      · have hb : p.1 ∈ fp := hm2 ▸ List.mem_map.mpr ⟨p, hp, rfl⟩
        obtain ⟨_, f1, f2, _⟩ := hf _ hb
        exact ⟨(ho2 p hp).1, hnone _ hb, f1, f2, (ho2 p hp).2⟩
    refine seg_bind_wrap ?_
    rw [← hY]
    refine wpAny_mono (hg.run _ _ σ H1 x u _ I3 ru (hr.2 x H1 hy σ l z)) ?_ fun e s' hx => by rw [hxe] at hx; exact hx.elim
    rintro _ s3 ⟨σ3, H3, I4, l3, z3, q3⟩
    refine seg_bind_wrap ?_
    simp only [List.forIn_nil]
    refine wpAny_pure ?_
    simp only [if_true]
    have hyo : ∀ v, yieldOut Y.env v = yieldValue v := fun v => by simp only [yieldOut, hco, Bool.false_eq_true, if_false]
    simp only [hyo]
    rw [Sem.bind_eq_wrap', Sem.bind_eq_wrap', Sem.wrap_wrap, Sem.wrap_wrap]
    refine seg_wrap ?_
    rw [← hY]
    refine wpAny_mono (hel.run _ _ _ _ _ I4 q3) (fun y s4 h4 => ?_) fun e s' hx => by rw [hxe] at hx; exact hx.elim
    obtain ⟨r, H4, I5, rr, b, rfl, htr, hfa⟩ := h4
    obtain rfl : y = Value.bool b := rr
    have G4 : GInv2 Y a go fp tn L (i + 1) H4 s4 := by
      refine ⟨σ3, ps2, l3, z3, hm2, T.keep (i + 1) s2.heap s4.heap ht2 fun b hb o e => ?_, I5⟩
      rw [← hm2] at hb
      obtain ⟨p, hp, rfl⟩ := List.mem_map.mp hb
      rw [(ho2 p hp).1] at e
      cases e
      exact (I5.pin p (List.mem_append_right _ (List.mem_cons_of_mem _ hp))).1
    refine seg_at (seg_yield rfl rfl rfl ⟨b, i + 1, H4, rfl, G4, hfa, fun hb s' o g e => ?_⟩)
    exact seg_again rfl (ih (i + 1) H4 s' s' (G4.woke o g e) (htr hb))
theorem seg_itStart (hA : Aw.handled = none) (hY : Y.A = Aw.over (.compLoop (.GeneratorExp elt [⟨tg, iter, [], 0⟩] scope pos) 0 (.ref it) .none Y.env) []) (hco : Y.env.scope.isCoroutine = false) (hcl : Y.env.cells = []) (hex : ∀ b ∈ fp, b ∈ Y.ex) (ha : a ∉ fp) (hpn : Y.pn = [])
    (hcalm : Y.calm = true) (hxe : Y.xe = fun _ _ => False) (T : Turn Y.prog Y.w Y.K tg J fp it tn) (hg : PG Y tg g) (hel : PE Y elt te) {n : Nat} {H : Hp} {s₀ s : Shared} (hG : GInv2 Y a go fp tn L 0 H s) (hr : rdAllI g te J L n 0 H Q) :
    Seg (model Y.prog Y.w) Aw (gEnd Y Q) (gProt2 Y a go fp tn L Q) n s₀ (.compStart (.GeneratorExp elt [⟨tg, iter, [], 0⟩] scope pos) 0 (.ref it) .none Y.env)
      ((model Y.prog Y.w).den (.compStart (.GeneratorExp elt [⟨tg, iter, [], 0⟩] scope pos) 0 (.ref it) .none Y.env)) [] s := by
  have again : Seg (model Y.prog Y.w) Aw (gEnd Y Q) (gProt2 Y a go fp tn L Q) n s₀ (.compStart (.GeneratorExp elt [⟨tg, iter, [], 0⟩] scope pos) 0 (.ref it) .none Y.env) (.pure (.again (.compLoop (.GeneratorExp elt [⟨tg, iter, [], 0⟩] scope pos) 0 (.ref it) .none Y.env))) [] s :=
    seg_again rfl (seg_itLoop hA hY hco hcl hex ha hpn hcalm hxe T hg hel n 0 H s₀ s hG hr)
  obtain ⟨σ, ps, l, z, hm, ht, I⟩ := hG
  show Seg _ Aw _ _ _ s₀ _ ((compStart _ 0 (.ref it) .none Y.env).onRaise (leaving Y.env)) [] s
  unfold compStart
  rw [Sem.onRaise_eq_wrap]
  apply seg_bind_wrap (m := ask)
  apply wpAny_askSetting
  split
  · exact again
  · apply seg_bind_wrap
    apply wpAny_rule
    apply seg_bind_wrap
    apply wpAny_standAt
    apply seg_bind_wrap
    exact T.self _ 0 s _ _ ht again
end
theorem all_loop2 {Y : Cx} {A : Around} {a : Addr} {fp : List Addr} {tn : Nat → Heap → Prop} {L : Nat} {go : Obj} {g : Nat} {R : Result → Shared → Prop} {Q : Bool → Hp → Prop} (hh : A.handled = none) (hd : A.depth < recursionLimit) (G : GenO go g)
    (fin : ∀ b σ H s, Inv Y [] σ H s → Q b H → R (.ok (.ret (.bool b))) s) :
    ∀ (n : Nat) (s : Shared), s.heap.get? a = some go → s.heap.NoLimit → (∃ gs, s.gens[g]? = some gs ∧ gs.Goes (model Y.prog Y.w) A.in1.in1 (gEnd Y Q) (gProt2 Y a go fp tn L Q) n (.send .none) (s.setGen g .running)) →
      codeAny (model Y.prog Y.w) A (.builtin "all.loop" ⟨[.ref a], []⟩) R s := by
  intro n
  induction n with
  | zero =>
    intro s ha hl ⟨gs, hgs, hgo⟩
    apply codeAny_builtin F.entry_all_loop
    rw [Around.under_plainId F.plain_all_loop _]
    show wpAny _ A.in1 (pyNext (.ref a) >>= _) _ _ s
    apply wpAny_bind
    apply next_genG (A := A.in1) (F := gDone Y Q) (Er := fun _ _ => False) hh hl hd (G.at ha) hgs hgo
    · intro v s1 gs' hb hv
      obtain ⟨b, i, H, rfl, hG, hf, ht⟩ := hv
      cases b with
      | true =>
        obtain ⟨_, _, _, _, _, _, J⟩ := hG
        exact False.elim (ht rfl s1 rfl J.bare rfl)
      | false =>
        obtain ⟨σ, io, _, _, _, _, J⟩ := hG
        apply wpAny_bind
        apply wpAny_holding
        apply wpAny_truthy_bool
        apply wpAny_bind
        apply wpAny_letGo
        show wpAny _ _ (rule _ >>= _) _ _ _
        apply wpAny_bind
        apply wpAny_rule
        apply wpAny_pure
        exact fin false σ H _ (inv_gens (J.pins_of fun p hp => by simp at hp) rfl (allBare_setGen J.bare hb) fun _ _ e => e) (hf rfl)
    · intro s1 hp h' hk
      obtain ⟨σ, H, J, q⟩ := hp
      show wpAny _ _ (rule _ >>= _) _ _ _
      apply wpAny_bind
      apply wpAny_rule
      apply wpAny_pure
      exact fin true σ H _ (inv_gens J rfl (allBare_setGen J.bare rfl) hk) q
    · intro e s1 he
      exact he.elim
  | succ n ih =>
    intro s ha hl ⟨gs, hgs, hgo⟩
    have hgl : g < s.gens.size := (Array.getElem?_eq_some_iff.mp hgs).1
    apply codeAny_builtin F.entry_all_loop
    rw [Around.under_plainId F.plain_all_loop _]
    show wpAny _ A.in1 (pyNext (.ref a) >>= _) _ _ s
    apply wpAny_bind
    apply wpAny_gsz (n := g + 1) hgl
    apply next_genG (A := A.in1) (F := gDone Y Q) (Er := fun _ _ => False) hh hl hd (G.at ha) hgs hgo
    · intro v s1 gs' hb hv hsz
      obtain ⟨b, i, H, rfl, hG, hf, ht⟩ := hv
      have hG' := hG
      obtain ⟨σ, io, _, _, _, _, J⟩ := hG'
      have pa := J.pin (a, go) (List.mem_append_right _ (by simp))
      apply wpAny_bind
      apply wpAny_holding
      apply wpAny_truthy_bool
      apply wpAny_bind
      apply wpAny_letGo
      cases b with
      | false =>
        show wpAny _ _ (rule _ >>= _) _ _ _
        apply wpAny_bind
        apply wpAny_rule
        apply wpAny_pure
        exact fin false σ H _ (inv_gens (J.pins_of fun p hp => by simp at hp) rfl (allBare_setGen J.bare hb) fun _ _ e => e) (hf rfl)
      | true =>
        simp only [if_true]
        have hsz1 : g < s1.gens.size := by
          have q : (s1.setGen g gs').gens.size = s1.gens.size := setGen_size _ _ _
          have : g + 1 ≤ (s1.setGen g gs').gens.size := hsz
          omega
        refine wpAny_pure ⟨plainId_quiet F.plain_all_loop _, ih (s1.setGen g gs') pa.1 J.nolimit ⟨gs', setGen_at hsz1, ?_⟩⟩
        exact ht rfl _ rfl (allBare_setGen (s := s1.setGen g gs') (allBare_setGen J.bare hb) rfl) rfl
    · intro s1 hp h' hk hsz
      obtain ⟨σ, H, J, q⟩ := hp
      show wpAny _ _ (rule _ >>= _) _ _ _
      apply wpAny_bind
      apply wpAny_rule
      apply wpAny_pure
      exact fin true σ H _ (inv_gens J rfl (allBare_setGen J.bare rfl) hk) q
    · intro e s1 he
      exact he.elim

theorem envs_loopI {elt iter tg : Expr} {pos : Pos} {scope : Scope} {it acc : Value} {env : Env} {A : Around} {l : List Env} (h : A.frames = some l) : (A.over (.compLoop (.GeneratorExp elt [⟨tg, iter, [], 0⟩] scope pos) 0 it acc env) []).frames = some (env :: l) := by
  show pushEnvs (Code.envs (.compLoop (.GeneratorExp elt [⟨tg, iter, [], 0⟩] scope pos) 0 it acc env)) (pushEnvs [] A.frames) = _
  rw [h]
  rfl
theorem room_loopI {k : Nat} {A : Around} {elt iter tg : Expr} {pos : Pos} {scope : Scope} {it acc : Value} {env : Env} (r : Room (k + 1) A) : Room k (A.in1.in1.over (.compLoop (.GeneratorExp elt [⟨tg, iter, [], 0⟩] scope pos) 0 it acc env) []) := by
  have h1 : (A.in1.in1.over (.compLoop (.GeneratorExp elt [⟨tg, iter, [], 0⟩] scope pos) 0 it acc env) []).depth = A.in1.in1.depth + 1 := rfl
  have h2 : (A.in1.in1.over (.compLoop (.GeneratorExp elt [⟨tg, iter, [], 0⟩] scope pos) 0 it acc env) []).units = A.in1.in1.units + 3 := rfl
  have h3 : A.in1.in1.depth = A.depth := rfl
  have h4 : A.in1.in1.units = A.units + 1 + 1 := rfl
  have h5 := r.dp
  have h6 := r.un
  exact ⟨r.hd, by rw [h1, h3]; omega, by rw [h2, h4]; omega⟩
section
variable {X : Cx} {pins : List (Addr × Obj)} {σ : L2.St} {H : Hp} {s : Shared}
/-- made, not begun; what its whole walk by all leaves -/
def ReadyI (X : Cx) (pins : List (Addr × Obj)) (σ : L2.St) (R : Nat → (Bool → Hp → Prop) → Prop) (n L : Nat) (a : Addr) (s5 : Shared) : Prop :=
  ∃ (go : Obj) (g : Nat) (fp : List Addr) (tn : Nat → Heap → Prop), GenO go g ∧ s5.heap.get? a = some go ∧ s5.heap.NoLimit ∧ g < s5.gens.size ∧ ∀ Q : Bool → Hp → Prop, R n Q → ∃ (Y : Cx),
    Y.prog = X.prog ∧ Y.w = X.w ∧ (∃ gs, s5.gens[g]? = some gs ∧ gs.Goes (model Y.prog Y.w) X.A.in1.in1 (gEnd Y Q) (gProt2 Y a go fp tn L Q) n (.send .none) (s5.setGen g .running)) ∧
    ∀ b σ' H' s', Inv Y [] σ' H' s' → Q b H' → ∃ H'', Inv X pins σ H'' s' ∧ Q b H''
theorem gen_it {c P : Addr} {elt iter tg : Expr} {xs : List Str} {gpos : Pos} {scope : Scope} {te : TE} {g : TG} {wi : TI} {k : Nat} {Q' : Value → Shared → Prop} {R : It → Nat → Hp → Prop}
    (hr : Room (k + 1) X.A) (TB : GxR.TabB X.base X.mg c P) (hcode : X.env.code = .ref c) (S : ManyN scope xs) (hi : PI X tg iter wi)
    (hg : ∀ (s : Shared) (H : Hp) (cenv : Env) (B : Around) (fp : List Addr), cenv.scope = scope → PG (gyOf X xs s H cenv B fp) tg g)
    (hel : ∀ (s : Shared) (H : Hp) (C : Addr) (code : Value) (I : Addr) (fp : List Addr), Room k (X.A.in1.in1.over (.compLoop (.GeneratorExp elt [⟨tg, iter, [], 0⟩] scope gpos) 0 (.ref I) .none (genEnv scope [] C code builtinsNs X.env)) []) →
      PE (gyOf X xs s H (genEnv scope [] C code builtinsNs X.env) (X.A.in1.in1.over (.compLoop (.GeneratorExp elt [⟨tg, iter, [], 0⟩] scope gpos) 0 (.ref I) .none (genEnv scope [] C code builtinsNs X.env)) []) fp) elt te)
    (hs : ∀ v, genFold iter X.env v = pure v) (I0 : Inv X pins σ H s)
    (h : wi σ H fun J H1 => GxR.TabG H1 P ∧ ∀ H2, GxR.Tabbed P H1 H2 → ∃ n, R J n H2)
    (hQ : ∀ J n H2 a s5, R J n H2 → ReadyI X pins σ (fun n Q => rdAllI g te J (xs.length + 1) n 0 H2 Q) n (xs.length + 1) a s5 → Q' (.ref a) s5) :
    wpAny (model X.prog X.w) X.A (eval (.GeneratorExp elt [⟨tg, iter, [], 0⟩] scope gpos) X.env) Q' X.xe s := by
  have hcl : closureFor scope X.env = pure [] := by
    rw [closure_ok fun y hy hf => absurd hf (S.free y hy), clo_none S.free]
  have hroom : X.A.depth < recursionLimit := by
    have := hr.dp
    omega
  apply wpAny_GeneratorExp_make S.co hcl S.cell S.dot S.kind hroom ?_ hs
  refine wpAny_mono (hi.run pins s σ H _ I0 h) (fun v s0 w0 => wpAny_mono w0 ?_ fun _ _ z => z) fun _ _ z => z
  rintro _ s1 ⟨it, fp, tn, J, H1, rfl, I1, T, st, hf, ⟨tb, hP, ht⟩, q1⟩
  refine ⟨I1.nolimit, ?_⟩
  have tabS : s1.heap.get? P = some { cls := .none, data := .fields tb } := I1.hok P _ hP
  have Plt : P < s1.heap.objs.size := Heap.lt_size tabS
  refine gcode (s2 := s1) hcode (TB.code.keeps fun b u e => I1.bk b u e) tabS ht fun code h3 n3 tb3 hx hsz hP3 hmore ht3 => ?_
  obtain ⟨bm, ob, e1, e2, e3, e4, e5, e6, e7, e8⟩ := TB.bm
  have cP : cStatics ≠ P := fun e => by
    obtain ⟨_, hns, _⟩ := I1.nolimit
    obtain ⟨o', es, ep, ho', hd', _⟩ := hns
    rw [e, tabS] at ho'
    cases ho'
    cases hd'
  apply wpAny_builtinsFor (m := X.mg) (by rw [I1.ok.glob]; exact (I1.mod.glob.keeps I1.bk).extBut hx TB.gP) e1 e2 (hx _ _ e4 (I1.bk _ _ e5)) e6 e7 e8
  intro h5 hns hsb
  obtain ⟨more, em⟩ := hmore
  subst em
  have I4 := GxR.inv_tab (more := more) (h' := h3) (g' := s1.gens) (d' := s1.drawn) (t' := n3) I1 hP hx hP3 I1.bare
  generalize hgo : ({ cls := .type "generator", data := .fields #[.int s1.gens.size 0, .str "<genexpr>" (n3 + 1), .str (X.env.qual ++ "<genexpr>") (n3 + 1 + 1)] } : Obj) = go
  have GO : GenO go s1.gens.size := by
    subst hgo
    exact ⟨rfl, ⟨_, _, rfl⟩, rfl⟩
  have k5 : ∀ b u, h3.get? b = some u → h5.get? b = some u := fun b u e => hsb.extBut b u (Nat.ne_of_lt (Heap.lt_size e)) (Heap.get?_push_of_some _ e)
  have k6 : ∀ b u, h3.get? b = some u → (h5.push go).get? b = some u := fun b u e => Heap.get?_push_of_some _ (k5 b u e)
  have sz5 : h5.objs.size = h3.objs.size + 1 := by rw [hsb.1, Heap.size_push]
  have hga : (h5.push go).get? h5.objs.size = some go := by
    subst hgo
    exact Heap.get?_push_size _ rfl
  have god : ∀ v, go.data ≠ .cell v := fun v q => by
    obtain ⟨nm, qn, d⟩ := GO.data
    rw [d] at q
    cases q
  -- the walked objects
  have fpP : ∀ b ∈ fp, b ≠ P := fun b hb z => by
    have := (hf b hb).1
    rw [z, hP] at this
    cases this
  have lt1 : ∀ b ∈ fp, b < s1.heap.objs.size := fun b hb => by
    obtain ⟨o, e, _⟩ := T.obj 0 s1.heap st b hb
    exact Heap.lt_size e
  have k3 : ∀ b ∈ fp, ∀ o, s1.heap.get? b = some o → h3.get? b = some o := fun b hb o e => hx b o (fpP b hb) e
  have lt3 : ∀ b ∈ fp, b < h3.objs.size := fun b hb => by
    obtain ⟨o, e, _⟩ := T.obj 0 s1.heap st b hb
    exact Heap.lt_size (k3 b hb o e)
  have none2 : ∀ b ∈ fp, (upd H1 P (.tbl (tb ++ more))) b = none := fun b hb => by
    rw [upd_ne (fpP b hb)]
    exact (hf b hb).1
  have nst : ∀ b ∈ fp, b ∉ frs X.stack := fun b hb hm => by
    rcases List.mem_cons.mp (I1.stkSub b hm) with z | z
    · exact (hf b hb).2.1 z
    · exact (hf b hb).2.2.1 z
  have nstN : ∀ b, h3.objs.size ≤ b → b ∉ frs X.stack := fun b hb hm => by
    rcases List.mem_cons.mp (I4.stkSub b hm) with z | z
    · rw [z] at hb
      exact absurd (Nat.lt_of_lt_of_le I4.lt hb) (Nat.lt_irrefl _)
    · exact I4.nofs hb z
  have st3 : tn 0 h3 := T.keep 0 s1.heap h3 st k3
  have st6 : tn 0 (h5.push go) := T.keep 0 h3 (h5.push go) st3 fun b _ o e => k6 b o e
  obtain ⟨ps, hm, ho⟩ := objs_of (T.obj 0 _ st6)
  have aN : h5.objs.size ∉ fp := fun z => by
    have q : h5.objs.size < h3.objs.size := lt3 _ z
    rw [sz5] at q
    exact Nat.not_succ_lt_self q
  obtain ⟨n, qn⟩ := q1 _ ⟨⟨_, upd_same, ht3⟩, fun b hb => upd_ne hb⟩
  refine hQ J n _ _ _ qn ⟨go, s1.gens.size, fp, tn, GO, hga, I4.nolimit.keeps k6, by show _ < (s1.gens.push _).size; rw [Array.size_push]; exact Nat.lt_succ_self _, fun Q hrd => ?_⟩
  have KY : (gyOf X xs { s1 with heap := h3, gens := s1.gens, drawn := s1.drawn, toks := n3 } (upd H1 P (.tbl (tb ++ more))) (genEnv scope [] h3.objs.size code builtinsNs X.env)
      (X.A.in1.in1.over (.compLoop (.GeneratorExp elt [⟨tg, iter, [], 0⟩] scope gpos) 0 (.ref it) .none (genEnv scope [] h3.objs.size code builtinsNs X.env)) []) fp).Ok := by
    refine ⟨I4.ok.mod, S.kind, I4.ok.glob, rfl, Nat.le_refl _, fun y z c e _ => (by cases e), fun y hy => ?_, fun y c _ e => (by cases e), fun _ => hr.hd, envs_loopI I4.ok.frames, .inr ⟨rfl, rfl⟩, fun b hb => ⟨Nat.ne_of_lt (lt3 b hb), fun y c e => (by cases e)⟩, fun b o e => I4.bs b o e, Nat.le_trans I4.ok.bsz I4.sz, fun b o e hb => ?_, fun b hb => nst b hb, I4.stack, I4.stkFree⟩
    · have hy' : scope.names.lookup y = some .cell ∨ scope.names.lookup y = some .free := hy
      rcases hy' with z | z
      · exact absurd rfl (S.cell _ (PySem.mem_of_lookup z))
      · exact absurd rfl (S.free _ (PySem.mem_of_lookup z))
    · rcases (hf b hb).2.2.2.1 with z | z
      · exact I1.ok.noex b o e z
      · exact absurd (Nat.lt_of_lt_of_le (Heap.lt_size e) (Nat.le_trans I1.ok.bsz z)) (Nat.lt_irrefl _)
  refine ⟨gyOf X xs { s1 with heap := h3, gens := s1.gens, drawn := s1.drawn, toks := n3 } (upd H1 P (.tbl (tb ++ more))) (genEnv scope [] h3.objs.size code builtinsNs X.env)
      (X.A.in1.in1.over (.compLoop (.GeneratorExp elt [⟨tg, iter, [], 0⟩] scope gpos) 0 (.ref it) .none (genEnv scope [] h3.objs.size code builtinsNs X.env)) []) fp, rfl, rfl,
    ⟨_, Array.getElem?_push_size .., rfl, seg_itStart (Aw := X.A.in1.in1) hr.hd rfl S.co rfl (fun b hb => hb) aN rfl rfl rfl T (hg _ _ _ _ _ rfl) (hel _ _ _ _ _ _ (room_loopI hr)) ⟨List.replicate (xs.length + 1) none, ps, List.length_replicate .., by simp, hm, st6, ?_⟩ hrd⟩,
    fun b σ' H' s' J q => ⟨H', I4.call' (ch := fp) J.os J.base J.hok J.bare fun b hb => ⟨(hf b hb).2.2.2.1, (hf b hb).2.1, (hf b hb).2.2.2.2.1, (hf b hb).2.2.2.2.2⟩, q⟩⟩
  refine ⟨KY, rfl, allBare_setGen (AllBare.push I1.bare rfl) rfl, Un.kept k6, ⟨_, hns.push _, fun i y v _ h2 _ => ?_⟩, fun y c e => (by cases e), I4.hok.fresh (Nat.le_refl _), fun y c e => (by cases e), fun p hp => ?_, I4.hok.kept k6, ?_⟩
  · have h2' : (List.replicate (xs.length + 1) (none : Option V))[i]? = some (some v) := h2
    rw [List.getElem?_replicate] at h2'
    split at h2' <;> cases h2'
  · rcases List.mem_cons.mp (show p ∈ (h5.objs.size, go) :: ps from hp) with rfl | hp
    · exact ⟨hga, I4.hok.fresh (show h3.objs.size ≤ h5.objs.size by omega), (by show h5.objs.size ≠ h3.objs.size; omega), nstN _ (show h3.objs.size ≤ h5.objs.size by omega), god⟩
    · have hb : p.1 ∈ fp := hm ▸ List.mem_map.mpr ⟨p, hp, rfl⟩
      exact ⟨(ho p hp).1, none2 _ hb, Nat.ne_of_lt (lt3 _ hb), nst _ hb, (ho p hp).2⟩
  · show (List.replicate (xs.length + 1) (none : Option V)).length = ((".0" : Str) :: xs).length
    rw [List.length_replicate]
    rfl
end
/-- all(e for .. in ..): the def's table may have grown when the first is asked -/
def tAllI (P : Addr) (g : TG) (te : TE) (wi : TI) (L : Nat) : TE := fun σ H Q => wi σ H fun J H1 => GxR.TabG H1 P ∧ ∀ H2, GxR.Tabbed P H1 H2 → ∃ n, rdAllI g te J L n 0 H2 fun b H' => Q (.bl b) H'

section
variable {X : Cx}
theorem pe_allI {c P : Addr} {elt iter tg : Expr} {xs : List Str} {p pos gpos : Pos} {scope : Scope} {te : TE} {g : TG} {wi : TI} {k : Nat}
    (hr : Room (k + 1) X.A) (hgl : Gl X "all") (hm : X.mg "all" = none) (TB : GxR.TabB X.base X.mg c P) (hcode : X.env.code = .ref c) (S : ManyN scope xs) (hi : PI X tg iter wi)
    (hg : ∀ (s : Shared) (H : Hp) (cenv : Env) (B : Around) (fp : List Addr), cenv.scope = scope → PG (gyOf X xs s H cenv B fp) tg g)
    (hel : ∀ (s : Shared) (H : Hp) (C : Addr) (code : Value) (I : Addr) (fp : List Addr), Room k (X.A.in1.in1.over (.compLoop (.GeneratorExp elt [⟨tg, iter, [], 0⟩] scope gpos) 0 (.ref I) .none (genEnv scope [] C code builtinsNs X.env)) []) →
      PE (gyOf X xs s H (genEnv scope [] C code builtinsNs X.env) (X.A.in1.in1.over (.compLoop (.GeneratorExp elt [⟨tg, iter, [], 0⟩] scope gpos) 0 (.ref I) .none (genEnv scope [] C code builtinsNs X.env)) []) fp) elt te)
    (hs : ∀ v, genFold iter X.env v = pure v) (hb : bootBuiltins "all" = some (.builtin "all") := by decide +kernel)
    (he : starEach [.GeneratorExp elt [⟨tg, iter, [], 0⟩] scope gpos] X.env = (false, eval (.GeneratorExp elt [⟨tg, iter, [], 0⟩] scope gpos) X.env) :: starEach [] X.env := by rfl) :
    PE X (.Call (.Name "all" p) [.GeneratorExp elt [⟨tg, iter, [], 0⟩] scope gpos] [] pos) (tAllI P g te wi (xs.length + 1)) := by
  constructor
  intro pins s σ H Q I want
  have hroom : X.A.depth < recursionLimit := by
    have := hr.dp
    omega
  apply wpAny_Call_Name_kw (ld_blt I hgl hm hb ?_)
  apply PyProof.Rows.callWith_builtin1 ?_ he (by rfl)
  rw [he]
  show wpAny _ _ (spliced ((false, eval (.GeneratorExp elt [⟨tg, iter, [], 0⟩] scope gpos) X.env) :: backTo pos (starEach [] X.env))) _ _ s
  apply Calls.spliced_cons (gen_it (R := fun J n H2 => rdAllI g te J (xs.length + 1) n 0 H2 fun b H' => Q (.bl b) H') hr TB hcode S hi hg hel hs I want ?_)
  intro J n H2 a s5 k5 ready
  obtain ⟨go, gi, fp, tn, GO, ha, lim, _, fin⟩ := ready
  obtain ⟨Y, eP, eW, hgo, back⟩ := fin _ k5
  apply Calls.spliced_nil
  apply call_function_tree F.kind_all F.plain_all F.entry_all (F.args_all1 _)
  unfold Builtin.«all»
  refine wpAny_bind (m := oneArg "all" _) (wpAny_pure ?_)
  refine wpAny_bind (wpAny_pyIter_gen (GO.at ha) ?_)
  refine wpAny_pure ⟨plainId_quiet F.plain_all_loop _, ?_⟩
  have key := all_loop2 (Y := Y) (A := X.A) (fp := fp) (tn := tn) (L := xs.length + 1) (R := fun r s' => match r with | .ok (.ret v) => EP X pins σ Q v s' | .ok _ => False | .error e => X.xe e s') hr.hd hroom GO (fun b σ' H' s' J q => by
    obtain ⟨H'', J2, q2⟩ := back b σ' H' s' J q
    exact ⟨.bl b, H'', J2, rfl, q2⟩) n s5 ha lim hgo
  rw [eP, eW] at key
  exact key
end
section
variable {X : Cx}
theorem pg_two {x1 x2 : Str} {s : Shared} {H : Hp} {cenv : Env} {B : Around} {fp : List Addr} {scope : Scope} {p1 p2 pos : Pos} {n : Nat} (ec : cenv.scope = scope) (nd : List.Nodup [(".0" : Str), x1, x2]) (h1 : scope.names.lookup x1 = some .local) (h2 : scope.names.lookup x2 = some .local) :
    PG (gyOf X [x1, x2] s H cenv B fp) (.Tuple [.Name x1 p1, .Name x2 p2] n pos) (gTup X.K 2 (gCons (gName 1) (gCons (gName 2) gNil))) := by
  subst ec
  exact pg_tup (X := gyOf X [x1, x2] s H cenv B fp) rfl (pgs_cons (pg_name (X := gyOf X [x1, x2] s H cenv B fp) (i := 1) nd rfl (Or.inl h1)) (pgs_cons (pg_name (X := gyOf X [x1, x2] s H cenv B fp) (i := 2) nd rfl (Or.inl h2)) pgs_nil))
end
end Jf
set_option Elab.async false
set_option linter.all false
set_option maxRecDepth 100000
set_option maxHeartbeats 4000000
namespace PySem.W
open Lean Elab Tactic Meta PySem PySem.Calls PyProof.Rows Builtin Builtin.ObjectAttr Builtin.Getset_descriptor PyProof.V PySem.Spec
section
variable {prog : Program} {w : World} {A : Around} {E : Value → Shared → Prop} {s : Shared} {K : Frag} {x C : Addr} {ox : Obj} {od : Option Obj} {R : Result → Shared → Prop}
/-- an attribute of an error of the program's own class is asked of BaseException's own reader -/
theorem jf_asks {name : Str} {gt : Option Value} {ex : Bool} {Q : Value → Shared → Prop} (X : K.In s.heap) (I : InstAt s.heap x ox C od)
    (h1 : findIn K (.ref C) "__getattribute__" = some (some (.builtin "BaseException.__getattribute__"))) (h2 : findIn K (.ref C) "__getattr__" = some gt) (h3 : subIn K (.ref C) (.type "BaseException") = some true)
    (go : ∀ B : Around, wpAny (model prog w) B (Builtin.«object.__getattribute__» ⟨[.ref x, .str name s.toks], []⟩) (fun f s' => ∃ v, f = .done (.ret v) ∧ handedIn v = true ∧ Q v s') (fun _ _ => False) { s with toks := s.toks + 1 }) :
    wpAny (model prog w) A (getAttr (.ref x) name ex) Q E s := by
  have same : (onTheHeap (Value.ref C) && (.builtin "BaseException.__getattribute__" : Value) == .builtin "object.__getattribute__") = false := by
    rw [show ((.builtin "BaseException.__getattribute__" : Value) == .builtin "object.__getattribute__") = false from by decide +kernel]
    rfl
  have ofB : Looks (model prog w) s.heap (isInstance (.ref x) (.type "BaseException")) true := (I.type (M := model prog w)).andThen (looks_subIn X h3)
  have byB := PySem.F.excAttr_ValueError.ga
  unfold getAttr getAttrBy
  refine wpAny_bind (wpAny_mkText (wpAny_holding (wpAny_bind ((I.type (M := model prog w)).at (wpAny_bind ((looks_findIn X h1).at ?_))))))
  dsimp only
  rw [same, if_neg (by decide)]
  unfold getAttrByItsOwn hookBefore
  refine wpAny_bind ?_
  rw [if_pos (by rfl : onTheHeap (Value.ref C) = true)]
  refine (looks_findIn X h2).at (wpAny_bind (wpAny_attempt (wpAny_holding ?_)))
  unfold callGetattribute
  rw [if_neg (by cases ex <;> exact Bool.false_ne_true : ¬ (ex && onTheHeap (Value.builtin "BaseException.__getattribute__")) = true)]
  unfold boundAndCalled
  rw [byB.bind (.ref x)]
  refine wpAny_bind (wpAny_pure (wpAny_call (codeAny_call_builtin byB.plain PySem.F.entry_bexc_ga ?_)))
  refine check_slot (s := { s with toks := s.toks + 1 }) (i := "BaseException.__getattribute__") (owner := "BaseException") (n := "__getattribute__") (by decide +kernel) (by decide +kernel) ofB (PySem.F.args_bexc_ga (.ref x) (.str name s.toks)) ?_
  refine wpAny_mono (go _) (fun f s' hf => ?_) fun _ _ z => z.elim
  obtain ⟨v, rfl, hv, q⟩ := hf
  exact handed_on hv q
/-- its class -/
theorem jf_classX {gt : Option Value} {expr : Bool} {Q : Value → Shared → Prop} (X : K.In s.heap) (I : InstAt s.heap x ox C od) (h1 : findIn K (.ref C) "__getattribute__" = some (some (.builtin "BaseException.__getattribute__"))) (h2 : findIn K (.ref C) "__getattr__" = some gt)
    (h3 : subIn K (.ref C) (.type "BaseException") = some true) (h4 : findObj K C od "__class__" = some (.bind (.builtin "getset_descriptor.__get__") (.builtin "object.__class__"))) (h5 : mroIn K C (.type "object") = some true)
    (q : Q (.ref C) { s with toks := s.toks + 1 }) : wpAny (model prog w) A (getAttr (.ref x) "__class__" expr) Q E s := by
  refine jf_asks X I h1 h2 h3 fun B => ?_
  have found := looks_find (M := model prog w) X I h4
  unfold Builtin.«object.__getattribute__»
  refine wpAny_bind (wpAny_of_eq (a := ((Value.ref x : Value), [Value.str "__class__" s.toks])) (by first | rfl | (simp only [slotArgs]; rfl)) (wpAny_bind (wpAny_pure (wpAny_bind ((I.type (M := model prog w)).at (wpAny_bind (found.at ?_)))))))
  have J : K.In ({ s with toks := s.toks + 1 } : Shared).heap := X
  refine wpAny_bind (wpAny_holding (wpAny_call (class_get (s := { s with toks := s.toks + 1 }) (ox := ox) (od := od) J I h5 (wpAny_pure ⟨_, rfl, rfl, q⟩))))
theorem jf_dga (d tp : Value) (C : Addr) : descrGetArgs ⟨[d, .ref C, tp], []⟩ = pure (d, some (.ref C), given tp) := by rfl
/-- c.__name__, what its slot keeps -/
theorem jf_name_get {tp : Value} {o : Obj} {n : Str} {tk : Tok} (X : K.In s.heap) (ht : typeIn K (.ref C) = some (.type "type")) (hl : K.lookup C = some o) (hs : o.slots[2]? = some (some (.str n tk))) (h : R (.ok (.ret (.str n tk))) s) :
    codeAny (model prog w) A (.call (.builtin "getset_descriptor.__get__") ⟨[.builtin "type.__name__", .ref C, tp], []⟩) R s := by
  obtain ⟨hh, g, dr, t, os⟩ := s
  have L0 : Looks (model prog w) hh (typeOf (.ref C)) (.type "type") := looks_typeIn X ht
  have L1 : Looks (model prog w) hh (isSubtype (.type "type") (.type "type")) true := Looks.of_pure (by rw [isSubtype_type]; kernel_rfl)
  refine codeAny_call_builtin KF.slot_gs.plain KF.entry_gs (KF.slot_gs.check _ _ _ _ _ _ _ _ ktyn_type (KF.args_gs _ _ _) ?_)
  unfold Builtin.«getset_descriptor.__get__» descrGet
  rw [jf_dga]
  refine wpAny_bind (wpAny_pure ?_)
  unfold descrGetter descrCheckInstance descrNameAndClass isInstance
  simp only [ktyn_owner]
  repeat lk
  refine ⟨Code.quiet_builtin _ (by decide +kernel), codeAny_builtin ktyn_entry ?_⟩
  unfold Builtin.«type.__name__»
  dsimp only
  unfold Builtin.keptObject slotAt
  dsimp only
  refine wpAny_bind (wpAny_bind (wpAny_bind (wpAny_loadPart (X _ _ hl) ?_)))
  refine wpAny_pure (wpAny_pure ?_)
  rw [hs]
  exact wpAny_pure h
end
end PySem.W
namespace Jf
open PySem PySem.Spec PyProof.Rows L2 Evl
/-- what is asked of a class, so that its name is read -/
structure NmC (K : PySem.W.Frag) (C : Addr) (nm : Str) : Prop where
  ga : PySem.W.findIn K (.ref C) "__getattribute__" = some (some (.builtin "BaseException.__getattribute__"))
  gg : PySem.W.findIn K (.ref C) "__getattr__" = some none
  ex : PySem.W.subIn K (.ref C) (.type "BaseException") = some true
  cl : (PySem.W.clsIn K C).isSome = true
  kc : PySem.W.findIn K (.ref C) "__class__" = some (some (.builtin "object.__class__"))
  sp : PySem.W.specialIn K (.builtin "object.__class__") "__get__" = some (some (.builtin "getset_descriptor.__get__"))
  tk : PySem.W.takesIn K (.builtin "object.__class__") = some true
  mo : PySem.W.mroIn K C (.type "object") = some true
  rd : PySem.W.readsIn K C (.type "type") = true
  fd : PySem.W.findCls K (.ref C) (.type "type") "__name__" = some (.get (.builtin "getset_descriptor.__get__") (.builtin "type.__name__") (.ref C) (.type "type"))
  ty : PySem.W.typeIn K (.ref C) = some (.type "type")
  sl : ∃ o t, K.lookup C = some o ∧ o.slots[2]? = some (some (.str nm t))
/-- e.__class__.__name__ -/
def tNm (K : PySem.W.Frag) (te : TE) : TE := fun σ H Q => te σ H fun x H1 => ∃ (a C dx : Addr) (fs : List (Str × V)) (nm : Str), x = .ref a ∧ NmC K C nm ∧ H1 a = some (exo a C (some dx)) ∧ H1 dx = some (exd dx fs) ∧ Q (.str nm) H1
theorem pe_nm {X : Cx} {e : Expr} {te : TE} {p1 pos : Pos} (he : PE X e te) (hb1 : attributeBase e "__class__" X.env (eval e X.env) = eval e X.env := by rfl)
    (hb : attributeBase (.Attribute e "__class__" p1) "__name__" X.env (eval (.Attribute e "__class__" p1) X.env) = eval (.Attribute e "__class__" p1) X.env := by rfl) : PE X (.Attribute (.Attribute e "__class__" p1) "__name__" pos) (tNm X.K te) := by
  refine ⟨fun pins s σ H Q I h => ?_⟩
  refine attr_of hb (attr_of hb1 (thn (he.run pins s σ H _ I h) fun u s1 hh => ?_))
  obtain ⟨x, H1, I1, rx, a, C, dx, fs, nm, ex, T, ea, ed, q⟩ := hh
  subst ex
  obtain rfl : u = Value.ref a := rx
  obtain ⟨t1, ho⟩ := exo_at I1.hok ea
  obtain ⟨mA, hns, hr⟩ := exd_at I1.hok ed
  obtain ⟨od, hod, hl⟩ := lookIn_ns hns
  have J : PySem.W.InstAt s1.heap a { cls := .ref C, dict := some dx, data := .fields #[.ref t1, .none, .none, .none, .bool false, .none] } C (some od) := ⟨ho, rfl, rfl, hod⟩
  refine PySem.W.jf_classX I1.kIn J T.ga T.gg T.ex (PySem.W.findObj_dataE T.cl T.kc T.sp T.tk) T.mo ?_
  obtain ⟨o, t, e1, e2⟩ := T.sl
  have I2 := I1.tok (s1.toks + 1)
  have I3 := I1.tok (s1.toks + 1 + 1)
  refine PySem.W.cls_bind (s := { s1 with toks := s1.toks + 1 }) I2.kIn T.rd T.fd (wpAny_call (PySem.W.jf_name_get (s := { s1 with toks := s1.toks + 1 + 1 }) I3.kIn T.ty e1 e2 ?_))
  refine PySem.W.handed_on rfl ?_
  exact ⟨.str nm, H1, I3, ⟨t, rfl⟩, q⟩
end Jf
set_option Elab.async false
set_option linter.all false
set_option maxRecDepth 100000
set_option maxHeartbeats 4000000
namespace Jf
open PySem PySem.Spec PyProof.Rows L2 Evl
/-! ### error classes right under one class over ValueError, each with an `__init__` of its own that calls that one's -/
def clsOk (K : PySem.W.Frag) (C CM : Addr) (nm : Str) : Bool := match K.lookup C with
  | some ⟨.type "type", _, .cls cd, sl⟩ => (match sl.toList with
    | [_, _, _, _, some (.builtin n), _] => decide (n = "ValueError.__new__") && (decide (cd.name = nm) && (decide (cd.mro = [.ref C, .ref CM, .type "ValueError", .type "Exception", .type "BaseException", .type "object"]) && (decide (cd.hasDict = true) && decide (cd.hasDel = false))))
    | _ => false)
  | _ => false
/-- its name is read -/
def fdB (K : PySem.W.Frag) (C : Addr) : Bool := match PySem.W.findCls K (.ref C) (.type "type") "__name__" with
  | some (.get (.builtin g) (.builtin a) (.ref D) (.type t)) => decide (g = "getset_descriptor.__get__") && (decide (a = "type.__name__") && (decide (D = C) && decide (t = "type")))
  | _ => false
def slB (K : PySem.W.Frag) (C : Addr) (nm : Str) : Bool := match K.lookup C with
  | some o => (match o.slots[2]? with
    | some (some (Value.str n _)) => decide (n = nm)
    | _ => false)
  | none => false
def nmB (K : PySem.W.Frag) (C : Addr) (nm : Str) : Bool := PySem.W.readsIn K C (.type "type") && (fdB K C && (slB K C nm && decide (PySem.W.findIn K (.ref C) "kind" = some none)))
theorem fd_ok {K : PySem.W.Frag} {C : Addr} (h : fdB K C = true) : PySem.W.findCls K (.ref C) (.type "type") "__name__" = some (.get (.builtin "getset_descriptor.__get__") (.builtin "type.__name__") (.ref C) (.type "type")) := by
  unfold fdB at h
  split at h
  · rename_i g a D t e
    simp only [Bool.and_eq_true, decide_eq_true_eq] at h
    obtain ⟨rfl, rfl, rfl, rfl⟩ := h
    exact e
  · cases h
theorem sl_ok {K : PySem.W.Frag} {C : Addr} {nm : Str} (h : slB K C nm = true) : ∃ o t, K.lookup C = some o ∧ o.slots[2]? = some (some (.str nm t)) := by
  unfold slB at h
  split at h
  · rename_i o e
    split at h
    · rename_i n t e2
      simp only [decide_eq_true_eq] at h
      subst h
      exact ⟨o, t, e, e2⟩
    · cases h
  · cases h
/-- all that is asked of a class, as one truth -/
def errB (K : PySem.W.Frag) (C CM f : Addr) (nm : Str) : Bool :=
  nmB K C nm && (clsOk K C CM nm && (decide (PySem.W.findIn K (.ref C) "__setattr__" = some (some (.builtin "object.__setattr__"))) && (decide (PySem.W.subIn K (.ref C) (.type "BaseException") = some true) && (decide (PySem.W.typeIn K (.ref C) = some (.type "type")) &&
  (PySem.W.keepIn K (.ref C) && (decide (PySem.W.findIn K (.ref C) "__init__" = some (some (.ref f))) && (decide (PySem.W.typeIn K (.ref f) = some (.type "function")) && (decide (PySem.W.findIn K (.ref C) "value" = some none) &&
  (decide (PySem.W.findIn K (.ref C) "__getattribute__" = some (some (.builtin "BaseException.__getattribute__"))) && (decide (PySem.W.findIn K (.ref C) "__getattr__" = some none) && (PySem.W.hasDictIn K C &&
  (decide (PySem.W.findIn K (.ref C) "__class__" = some (some (.builtin "object.__class__"))) && (decide (PySem.W.specialIn K (.builtin "object.__class__") "__get__" = some (some (.builtin "getset_descriptor.__get__"))) && (decide (PySem.W.takesIn K (.builtin "object.__class__") = some true) &&
  (decide (PySem.W.mroIn K C (.type "object") = some true) && (decide (PySem.W.exmOne K (.ref C) (.ref CM) = some true) && !(C == CM)))))))))))))))))
structure ErrX (K : PySem.W.Frag) (C CM f : Addr) (nm : Str) : Prop where
  oex : OexC K C
  i : PySem.W.findIn K (.ref C) "__init__" = some (some (.ref f))
  t : PySem.W.typeIn K (.ref f) = some (.type "function")
  noV : PySem.W.findIn K (.ref C) "value" = some none
  ec : ErrC K C
  xf : XfC K C
  named : ∃ cd, PySem.W.clsIn K C = some cd ∧ cd.name = nm ∧ cd.mro = [.ref C, .ref CM, .type "ValueError", .type "Exception", .type "BaseException", .type "object"]
  exm : PySem.W.exmOne K (.ref C) (.ref CM) = some true
  ty : PySem.W.typeIn K (.ref C) = some (.type "type")
  neM : C ≠ CM
  nm : NmC K C nm
  noK : PySem.W.findIn K (.ref C) "kind" = some none
theorem cls_ok {K : PySem.W.Frag} {C CM : Addr} {nm : Str} (h : clsOk K C CM nm = true) : (∃ q N bs bm sn sub ab col dd k0 k1 k2 k3 k5, K.lookup C = some (excClassObj nm q C N bs bm true sn sub ab col dd k0 k1 k2 k3 k5 "ValueError.__new__") ∧ PySem.HandSPX.refsVE bm = true) ∧
    ∃ cd, PySem.W.clsIn K C = some cd ∧ cd.name = nm ∧ cd.mro = [.ref C, .ref CM, .type "ValueError", .type "Exception", .type "BaseException", .type "object"] := by
  unfold clsOk at h
  split at h
  · rename_i dd cd sl ho
    split at h
    · rename_i k0 k1 k2 k3 n k5 hs
      simp only [Bool.and_eq_true, decide_eq_true_eq] at h
      obtain ⟨rfl, h1, h2, h3, h4⟩ := h
      obtain ⟨nm', bs, mro, ns, qn, hd, sn, sub, ab, col, del⟩ := cd
      dsimp only at h1 h2 h3 h4
      subst h1 h2 h3 h4
      have hsl : sl = #[k0, k1, k2, k3, some (.builtin "ValueError.__new__"), k5] := by
        obtain ⟨l⟩ := sl
        simp only at hs
        rw [hs]
      subst hsl
      exact ⟨⟨qn, ns, bs, [.ref CM, .type "ValueError", .type "Exception", .type "BaseException", .type "object"], sn, sub, ab, col, dd, k0, k1, k2, k3, k5, ho, rfl⟩, _, by unfold PySem.W.clsIn; rw [ho], rfl, rfl⟩
    · cases h
  · cases h
theorem err_ok {K : PySem.W.Frag} {C CM f : Addr} {nm : Str} (h : errB K C CM f nm = true) : ErrX K C CM f nm := by
  unfold errB at h
  simp only [Bool.and_eq_true, decide_eq_true_eq, Bool.not_eq_true', beq_eq_false_iff_ne] at h
  obtain ⟨h0, h1, sa, ex, ty, kp, hi, ht, nv, ga, gg, hd, kc, sp, tk, mo, em, nM⟩ := h
  obtain ⟨⟨q, N, bs, bm, sn, sub, ab, col, dd, k0, k1, k2, k3, k5, hl, hr⟩, cd, hc, hn, hm⟩ := cls_ok h1
  unfold nmB at h0
  simp only [Bool.and_eq_true, decide_eq_true_eq] at h0
  refine ⟨⟨⟨nm, q, N, bs, bm, sn, sub, ab, col, dd, k0, k1, k2, k3, k5, hl, hr⟩, sa, ex, ty, kp⟩, hi, ht, nv, ⟨by rw [hc]; rfl, ga, gg, ex, hd, kc, sp, tk, mo⟩, ⟨ga, gg, ex, hd⟩, ⟨cd, hc, hn, hm⟩, em, ty, nM, ?_, ?_⟩
  · exact ⟨ga, gg, ex, by rw [hc]; rfl, kc, sp, tk, mo, h0.1, fd_ok h0.2.1, ty, sl_ok h0.2.2.1⟩
  · exact h0.2.2.2
section
variable {K : PySem.W.Frag} {C D CM f g : Addr} {nm nk : Str}
theorem kit_one (C : Addr) : PySem.W.kitOne K (.ref C) (.ref C) = some true := by
  unfold PySem.W.kitOne
  rw [if_pos (by simp)]
theorem ErrX.ne (a : ErrX K C CM f nm) (b : ErrX K D CM g nk) (h : nm ≠ nk) : C ≠ D := by
  rintro rfl
  obtain ⟨cd, h1, h2, _⟩ := a.named
  obtain ⟨ce, h3, h4, _⟩ := b.named
  rw [h1] at h3
  cases h3
  exact h (h2.symm.trans h4)
/-- isinstance by another of them -/
theorem ErrX.other (a : ErrX K C CM f nm) (b : ErrX K D CM g nk) (h : nm ≠ nk) : PySem.W.kitOne K (.ref C) (.ref D) = some false := by
  have n := a.ne b h
  obtain ⟨cd, h1, h2, h3⟩ := a.named
  obtain ⟨ce, h4, _, _⟩ := b.named
  unfold PySem.W.kitOne PySem.W.kitCls
  rw [if_neg (by simpa using n)]
  dsimp only
  rw [if_pos (by rw [h4, b.ty]; rfl)]
  show PySem.W.mroIn K C (.ref D) = some false
  unfold PySem.W.mroIn
  rw [h1, Option.bind_some, h3]
  simp [n.symm, b.neM]
theorem ErrX.off (a : ErrX K C CM f nm) (b : ErrX K D CM g nk) (n : C ≠ D) : PySem.W.kitOne K (.ref C) (.ref D) = some false := by
  obtain ⟨cd, h1, h2, h3⟩ := a.named
  obtain ⟨ce, h4, _, _⟩ := b.named
  unfold PySem.W.kitOne PySem.W.kitCls
  rw [if_neg (by simpa using n)]
  dsimp only
  rw [if_pos (by rw [h4, b.ty]; rfl)]
  show PySem.W.mroIn K C (.ref D) = some false
  unfold PySem.W.mroIn
  rw [h1, Option.bind_some, h3]
  simp [n.symm, b.neM]
theorem ErrX.self1 (a : ErrX K C CM f nm) : PySem.W.exmOne K (.ref C) (.ref C) = some true := by
  obtain ⟨cd, h1, h2, h3⟩ := a.named
  refine PySem.W.exm_ref a.ec.ex a.ec.hd a.ty ?_
  show PySem.W.mroIn K C (.ref C) = some true
  unfold PySem.W.mroIn
  rw [h1, Option.bind_some, h3]
  simp
theorem ErrX.base (a : ErrX K C CM f nm) : PySem.W.kitOne K (.ref C) (.ref CM) = some true := by
  have e := a.exm
  unfold PySem.W.exmOne at e
  split at e
  · unfold PySem.W.kitOne
    split
    · rfl
    · exact e
  · cases e
theorem ErrX.ve (a : ErrX K C CM f nm) : PySem.W.kitOne K (.ref C) (.type "ValueError") = some true := by
  obtain ⟨cd, h1, h2, h3⟩ := a.named
  unfold PySem.W.kitOne PySem.W.kitCls
  rw [if_neg (by simp)]
  dsimp only
  rw [if_pos (by decide +kernel)]
  show PySem.W.mroIn K C (.type "ValueError") = some true
  unfold PySem.W.mroIn
  rw [h1, Option.bind_some, h3]
  simp
theorem ErrX.self (a : ErrX K C CM f nm) (b : ErrX K D CM g nk) (h : nm = nk) (e : C = D) : PySem.W.kitOne K (.ref C) (.ref D) = some true := e ▸ kit_one C
end
/-- what such an error keeps -/
def kd (k : Str) (v : V) : List (Str × V) := [(("kind" : Str), .str k), (("value" : Str), v)]
/-- the object made of a class, its value kept -/
def ErrAt (K : PySem.W.Frag) (C : Addr) (v : V) (x : V) (H : Hp) : Prop := ∃ a dx k, x = .ref a ∧ H a = some (exo a C (some dx)) ∧ H dx = some (exd dx (kd k v))

/-! ### making one, as a value -/
def spInit (C : Addr) : Sp := fun vs H Q _ => ∃ (a : Addr) (v : V), vs = [.ref a, v] ∧ H a = some (exo a C none) ∧
  ∀ dx k H', H dx = none → dx ≠ a → H' a = some (exo a C (some dx)) → H' dx = some (exd dx (kd k v)) → (∀ b o, b ≠ a → H b = some o → H' b = some o) → Q .non H'
/-- .. of any of those classes -/
def spInitM (K : PySem.W.Frag) : Sp := fun vs H Q _ => ∃ (C a : Addr) (v : V) (nm : Str), vs = [.ref a, v] ∧ OexC K C ∧ PySem.W.findIn K (.ref C) "value" = some none ∧ PySem.W.findIn K (.ref C) "kind" = some none ∧ NmC K C nm ∧ H a = some (exo a C none) ∧
  ∀ dx k H', H dx = none → dx ≠ a → H' a = some (exo a C (some dx)) → H' dx = some (exd dx (kd k v)) → (∀ b o, b ≠ a → H b = some o → H' b = some o) → Q .non H'
def tMkV (C : Addr) (sp : Sp) (ta : TA) : TE := fun σ H Q => ta σ H fun vs H1 => vs.length ≤ 1000 ∧ ∀ a, H1 a = none → sp (.ref a :: vs) (upd H1 a (exo a C none)) (fun v H2 => v = .non ∧ Q (.ref a) H2) (fun _ _ _ => False)
section
variable {X : Cx} {e : Expr} {es : List Expr} {ta : TA} {x m : Str} {p p1 p2 pos : Pos} {k : Nat} {fd : FuncData} {ps : List Str} {sp : Sp}
/-- C(e, ..) -/
theorem pe_mkv {CX : CXT} {C fI : Addr} (T : OexC X.K C) (iC : PySem.W.findIn X.K (.ref C) "__init__" = some (some (.ref fI))) (tI : PySem.W.typeIn X.K (.ref fI) = some (.type "function"))
    (F1 : FnOk X.prog X.w X.K X.mg X.base CX k fI fd ps sp) (hr : Room (k + 1) X.A) (hb : Binds X.K fd ps []) (hx : Passes CX X (fun _ _ _ => False)) (hg : Gl X x) (hm : X.mg x = some (.ref C)) (ha : PA X (e :: es) ta)
    (hdb : (x == ("__debug__" : Str)) = false := by decide) (he : starEach (e :: es) X.env = (false, eval e X.env) :: starEach es X.env := by rfl) (hpl : (backTo pos (starEach es X.env)).any (·.1) = false := by rfl) :
    PE X (.Call (.Name x p) (e :: es) [] pos) (tMkV C sp ta) := by
  refine ⟨fun pins s σ H Q I h => ?_⟩
  obtain ⟨nm, q, N, bs, bm, sn, sub, ab, col, dd, k0, k1, k2, k3, k5, hC, hbm⟩ := T.cls
  refine wpAny_Call_Name_kw (ld_glob I hg hm ?_ hdb)
  refine PySem.W.callWith_K (h₀ := X.base) I.ok.mod.kin T.kC (thn (ha.run pos pins s σ H _ I h) fun us s1 ⟨vs, H1, I1, r1, hz, q1⟩ => ⟨I1.kIn, ?_⟩) he hpl
  show wpAny _ _ (call (.ref C) us) _ _ _
  obtain ⟨hp, g, dr, tk, os⟩ := s1
  have hsz : hp.objs.size ≤ hp.objs.size + 1 := Nat.le_succ _
  have hn : H1 (hp.objs.size + 1) = none := I1.hok.fresh hsz
  have hq := q1 (hp.objs.size + 1) hn
  have kk : ∀ b o, hp.get? b = some o → ((hp.push (PySem.W.kdv_tup us)).push (PySem.HandSPX.excO C hp.objs.size)).get? b = some o := fun b o e => Heap.get?_push_of_some _ (Heap.get?_push_of_some _ e)
  have hget : ((hp.push (PySem.W.kdv_tup us)).push (PySem.HandSPX.excO C hp.objs.size)).get? (hp.objs.size + 1) = some (PySem.HandSPX.excO C hp.objs.size) := by heap_get
  have I2 : Inv X pins σ (upd H1 (hp.objs.size + 1) (exo (hp.objs.size + 1) C none)) ⟨(hp.push (PySem.W.kdv_tup us)).push (PySem.HandSPX.excO C hp.objs.size), g, dr, tk, os⟩ :=
    I1.laid (t' := tk) (a := hp.objs.size + 1) (o := exo (hp.objs.size + 1) C none) (h' := (hp.push (PySem.W.kdv_tup us)).push (PySem.HandSPX.excO C hp.objs.size)) kk hsz (exo_ok hget)
  have r2 : Vals (V.ref (hp.objs.size + 1) :: vs) (Value.ref (hp.objs.size + 1) :: us) := .cons rfl r1
  have hl : (Value.ref (hp.objs.size + 1) :: us ++ []).length = ps.length := by
    have e := r2.length
    rw [F1.len _ _ _ _ hq] at e
    rw [List.append_nil]
    exact e.symm
  have hus : us.length ≤ sizeLine := by
    rw [← Paired.length r1, sizeLine_eq]
    omega
  have hb2 := hb _ (Value.ref (hp.objs.size + 1) :: us) I2.kIn hl
  rw [List.append_nil] at hb2
  refine wpAny_call (PySem.HandSPX.call_own F.excBase_ValueError (fun Y => PySem.HandSPX.refsVE_contains Y bm hbm) (I1.kIn _ _ hC) (PySem.W.looks_findIn I1.kIn iC) (fun self => PySem.W.bind_fn I1.kIn self tI) hus
    (codeAny_mono (F1.run _ X.stack _ _ ⟨Value.ref (hp.objs.size + 1) :: us, []⟩ (Value.ref (hp.objs.size + 1) :: us) _ _ (fun _ _ _ => False) (hr.make C us []) (I2.env0.make C us []) hb2 r2 hq) fun r s' hq' => ?_))
  cases r with
  | error er => exact hx pins σ _ _ er s' I2 hq'
  | ok fl =>
    cases fl with
    | ret u =>
      obtain ⟨v, H2, os2, bare2, un2, hok2, rv, ev, q2⟩ := hq'
      subst ev
      obtain ⟨h2, g2, d2, t2, os'⟩ := s'
      exact ⟨rv, .ref (hp.objs.size + 1), H2, I2.call' (ch := []) os2 un2 hok2 bare2 (fun b z => absurd z (by simp)), rfl, q2⟩
    | next => exact False.elim hq'
    | brk => exact False.elim hq'
    | cont => exact False.elim hq'
/-- C.m(e, ..), m a def of the class C itself -/
theorem pe_clsdef {CX : CXT} {C f : Addr} {mc : Value} {E : XK} {pl : Sem Bool} (hg : Gl X x) (hm : X.mg x = some (.ref C)) (rd : PySem.W.readsIn X.K C mc = true) (ga : PySem.W.specialIn X.K (.ref C) "__getattribute__" = some (some (.builtin "type.__getattribute__")))
    (fi : PySem.W.findCls X.K (.ref C) mc m = some (.val (.ref f))) (hk : PySem.W.keepIn X.K (.ref f) = true) (F1 : FnOk X.prog X.w X.K X.mg X.base CX k f fd ps sp) (hr : Room k X.A) (hb : Binds X.K fd ps []) (hx : Passes CX X E) (ha : PA X (e :: es) ta)
    (hdb : (x == ("__debug__" : Str)) = false := by decide)
    (hc : eval (.Call (.Attribute (.Name x p1) m p2) (e :: es) [] pos) X.env = (do
      let ov ← eval (.Name x p1) X.env
      standAt p2.atName
      let (f, first) ← holding [ov] (getMethod ov m pl)
      callWith pos f first (backTo pos (starEach (e :: es) X.env)) (backToKw pos (keywordEach [] X.env))) := by rfl)
    (he : starEach (e :: es) X.env = (false, eval e X.env) :: starEach es X.env := by rfl) (hpl : (backTo pos (starEach es X.env)).any (·.1) = false := by rfl) :
    PE X (.Call (.Attribute (.Name x p1) m p2) (e :: es) [] pos) (tCall sp [] E ta) := by
  refine ⟨fun pins s σ H Q I h => ?_⟩
  refine PySem.W.methodCall_KW (ld_glob I hg hm ?_ hdb) hc
  refine PySem.W.method_cls I.kIn ga (PySem.W.cls_value I.kIn rd fi rfl ?_)
  show wpAny _ _ (callWith pos (Value.ref f) [] (backTo pos (starEach (e :: es) X.env)) []) _ _ _
  refine PySem.W.callWith_K (h₀ := X.base) I.ok.mod.kin hk (thn (ha.run pos pins _ σ H _ (I.tok _) h) fun us s1 ⟨vs, H1, I1, r, q⟩ => ⟨I1.kIn, ?_⟩) he hpl
  exact run_fn F1 hr hb .nil hx I1 r q
end
/-! ### what is asked of such an object -/
/-- isinstance(e, c) -/
def rIsX (K : PySem.W.Frag) : List V → Hp → VK → Prop := fun xs H Q => ∃ (a C dd : Addr) (fs : List (Str × V)) (c : V) (cv : Value) (b : Bool), xs = [.ref a, c] ∧ (∀ u, RelV c u → u = cv) ∧ ErrC K C ∧ H a = some (exo a C (some dd)) ∧ H dd = some (exd dd fs) ∧ PySem.W.kitOne K (.ref C) cv = some b ∧ Q (.bl b) H
theorem call_isX {X : Cx} : CallR X (.builtin "isinstance") (rIsX X.K) := by
  intro pins s σ H xs us Q I r h
  obtain ⟨a, C, dd, fs, c, cv, b, rfl, hcv, T, ea, ed, hk, q⟩ := h
  cases r with
  | cons rx rr =>
    cases rr with
    | cons rt rr =>
      cases rr
      cases rx
      have ec := hcv _ rt
      subst ec
      obtain ⟨t1, ho⟩ := exo_at I.hok ea
      obtain ⟨mA, hns, rel⟩ := exd_at I.hok ed
      obtain ⟨od, hod, _⟩ := lookIn_ns hns
      have J : PySem.W.InstAt s.heap a { cls := .ref C, dict := some dd, data := .fields #[.ref t1, .none, .none, .none, .bool false, .none] } C (some od) := ⟨ho, rfl, rfl, hod⟩
      refine PySem.W.kia_one (PySem.W.kitx_exc T.cl T.ga T.gg T.ex T.kc T.sp T.tk T.mo) I.kIn J hk (fun z => nomatch z) ?_
      intro tk
      exact ⟨.bl b, H, I.kept (t' := tk) fun _ _ z => z, rfl, q⟩
/-- e.f -/
def tXo (K : PySem.W.Frag) (f : Str) (te : TE) : TE := fun σ H Q => te σ H fun x H1 => ∃ (a C dd : Addr) (fs : List (Str × V)) (v : V), x = .ref a ∧ XfC K C ∧ PySem.W.findIn K (.ref C) f = some none ∧ H1 a = some (exo a C (some dd)) ∧ H1 dd = some (exd dd fs) ∧ fs.lookup f = some v ∧ Q v H1
theorem pe_xo {X : Cx} {e : Expr} {te : TE} {pos : Pos} {n : Str} (he : PE X e te) (hb : attributeBase e n X.env (eval e X.env) = eval e X.env := by rfl) : PE X (.Attribute e n pos) (tXo X.K n te) := by
  refine ⟨fun pins s σ H Q I h => ?_⟩
  refine attr_of hb (thn (he.run pins s σ H _ I h) fun u s1 hh => ?_)
  obtain ⟨x, H1, I1, rx, a, C, dd, fs, v, ex, T, hno, ea, ed, l, q⟩ := hh
  subst ex
  obtain rfl : u = Value.ref a := rx
  obtain ⟨t1, ho⟩ := exo_at I1.hok ea
  obtain ⟨mA, hns, hr⟩ := exd_at I1.hok ed
  obtain ⟨od, hod, hl⟩ := lookIn_ns hns
  obtain ⟨u, hu, ru⟩ := RelO.some_of (v := v) (o := mA n) (by rw [← l]; exact hr n)
  have J : PySem.W.InstAt s1.heap a { cls := .ref C, dict := some dd, data := .fields #[.ref t1, .none, .none, .none, .bool false, .none] } C (some od) := ⟨ho, rfl, rfl, hod⟩
  exact HandSPX.exc_get I1.kIn J T.ga T.gg T.exC (PySem.W.findObj_own T.hdC hno rfl (by rw [hl, hu])) (handed_of ru) ⟨v, H1, I1.tok _, ru, q⟩
/-! ### the class of all of them -/
def baseB (K : PySem.W.Frag) (C f : Addr) : Bool := PySem.W.readsIn K C (.type "type") && (decide (PySem.W.specialIn K (.ref C) "__getattribute__" = some (some (.builtin "type.__getattribute__"))) && PySem.W.keepIn K (.ref f))
/-- how the class of all of them stands -/
structure BaseK (K : PySem.W.Frag) (mg : Str → Option Value) (nm q : Str) (st : Stmt) where
  C : Addr
  f : Addr
  fd : FuncData
  g : mg nm = some (.ref C)
  F : Fun K "__init__" q st f fd
  b : Binds K fd ["self", "value"] []
  rd : PySem.W.readsIn K C (.type "type") = true
  ga : PySem.W.specialIn K (.ref C) "__getattribute__" = some (some (.builtin "type.__getattribute__"))
  fi : PySem.W.findCls K (.ref C) (.type "type") "__init__" = some (.val (.ref f))
  kp : PySem.W.keepIn K (.ref f) = true
/-- how one of them stands -/
structure ErrK (K : PySem.W.Frag) (mg : Str → Option Value) (nm q : Str) (CM : Addr) (st : Stmt) where
  C : Addr
  f : Addr
  fd : FuncData
  g : mg nm = some (.ref C)
  F : Fun K "__init__" q st f fd
  b : Binds K fd ["self", "value"] []
  x : ErrX K C CM f nm
theorem base_ok {K : PySem.W.Frag} {C f : Addr} (h : baseB K C f = true) : PySem.W.readsIn K C (.type "type") = true ∧ PySem.W.specialIn K (.ref C) "__getattribute__" = some (some (.builtin "type.__getattribute__")) ∧ PySem.W.keepIn K (.ref f) = true := by
  unfold baseB at h
  simp only [Bool.and_eq_true, decide_eq_true_eq] at h
  exact h
/-! ### list.count of truths -/
def eqb (k : Bool) (v : Value) : Bool := match v with
  | .bool n => n == k
  | _ => false
def rCntB (K : PySem.W.Frag) : V → List V → Hp → VK → Prop := fun x xs H Q => ∃ (p : Addr) (ns : List Bool) (k : Bool), x = .ref p ∧ xs = [.bl k] ∧ SqL K H p (ns.map V.bl) ∧ Q (.int (ns.count k : Nat)) H
theorem vals_bl : ∀ {ns : List Bool} {us : List Value}, Vals (ns.map V.bl) us → us = ns.map Value.bool
  | [], us, r => by cases r; rfl
  | n :: ns, us, r => by
    cases r with
    | cons h r2 =>
      have e := vals_bl r2
      rw [e]
      cases (show _ = Value.bool n from h)
      rfl
theorem eqb_count (k : Bool) : ∀ ns : List Bool, (ns.map Value.bool).countP (eqb k) = ns.count k
  | [] => rfl
  | n :: ns => by
    rw [List.map_cons, List.countP_cons, List.count_cons, eqb_count k ns]
    rfl
theorem mt_bcount {X : Cx} : MtR X "list.count" (rCntB X.K) := by
  intro pins s σ H x xs v us Q I rx rxs h
  obtain ⟨p, ns, k, rfl, rfl, hs, q⟩ := h
  cases rx
  obtain ⟨u, rfl, ru⟩ := rxs.one
  obtain rfl : u = Value.bool k := ru
  obtain ⟨its, rv, ⟨⟨cls, dd, data, sl⟩, n, ho, hc, hdn, hd⟩, hlen⟩ := I.list hs
  simp only at hc hd
  subst hc hd
  have hi := vals_bl rv
  subst hi
  refine call_meets PySem.F.slot_list_count ⟨_, ho, rfl⟩ PySem.F.entry_list_count (PySem.F.args_list_count_2 _ _)
    (SeqAt.list_countAt p (ns.map Value.bool).toArray n dd sl (.bool k) (eqb k)) ⟨ho, fun y hy => ?_, ?_⟩
  · have hy' : y ∈ ns.map Value.bool := by simpa using hy
    obtain ⟨b, _, rfl⟩ := List.mem_map.mp hy'
    exact SeqAt.EqAt.bool_bool b k
  have ec : (ns.map Value.bool).toArray.toList.countP (eqb k) = ns.count k := eqb_count k ns
  refine ⟨.int (ns.count k : Nat), H, I.tok _, ⟨s.toks, ?_⟩, q⟩
  show Value.int (((ns.map Value.bool).toArray.toList.countP (eqb k) : Nat) : Int) s.toks = Value.int ((ns.count k : Nat) : Int) s.toks
  rw [ec]
end Jf
set_option Elab.async false
set_option linter.all false
set_option maxRecDepth 100000
set_option maxHeartbeats 4000000
namespace Jf
open PySem PySem.Spec PyProof.Rows L2 Evl
/-- list(xs): a new list, not at sys.modules -/
def rListN (K : PySem.W.Frag) : List V → Hp → VK → Prop := fun xs H Q => ∃ (p : Addr) (ys : List V), xs = [.ref p] ∧ (SqL K H p ys ∨ SqT K H p ys) ∧ ∀ l, H l = none → l ≠ sysModules → Q (.ref l) (upd H l (.lst ys))
theorem call_listN {X : Cx} : CallR X (.type "list") (rListN X.K) := by
  rintro pins s σ H xs us Q I r ⟨p, ys, rfl, from_, k⟩
  obtain ⟨u, rfl, ru⟩ := vals1 r
  cases ru
  have done : ∀ its : List Value, Vals ys its → ys.length ≤ sizeLine → ∀ (h' : Heap) (n : Nat), (∀ b o, s.heap.get? b = some o → h'.get? b = some o) → h'.get? s.heap.objs.size = some { cls := .type "list", dict := none, data := .seq its.toArray n, slots := #[] } →
      EP X pins σ Q (.ref s.heap.objs.size) { s with heap := h' } := by
    intro its vals len h' n kp e
    have hf : H s.heap.objs.size = none := I.hok.fresh (Nat.le_refl _)
    refine ⟨.ref _, upd H _ (.lst ys), I.laid (t' := s.toks) kp (Nat.le_refl _) ?_, rfl, k _ hf (Nat.ne_of_gt I.big)⟩
    exact ⟨len, its, n, vals, e⟩
  rcases from_ with h | h
  · obtain ⟨its, vals, pl, len⟩ := I.list h
    have e := vals.length
    obtain ⟨o, e1, e2, n, e3⟩ := pl.isList
    exact call_list_seq p (.inl rfl) e1 e2 e3 (done its vals len) (by simp only [List.size_toArray]; omega)
  · obtain ⟨its, vals, pl, len⟩ := I.tuple h
    have e := vals.length
    obtain ⟨o, e1, e2, n, e3⟩ := pl
    exact call_list_seq p (.inr rfl) e1 e2 e3 (done its vals len) (by simp only [List.size_toArray]; omega)
end Jf
set_option Elab.async false
set_option linter.all false
set_option maxRecDepth 100000
set_option maxHeartbeats 4000000
namespace Jf
open PySem PySem.Spec PyProof.Rows L2
/-! ### several clauses, each with a name -/
/-- what the clauses wish of an exception of the body, one after the other -/
def wAsM (K : PySem.W.Frag) (Wout : WX) (D : Ends) : List (Value × Nat × (Addr → Value → Option Addr → TS)) → WX
  | [] => Wout
  | (c, i, ts) :: r => fun cls d σ H => ∃ b, PySem.W.exmOne K cls c = some b ∧
      (b = true → ∀ a, H a = none → ts a cls d { nx := fun σ' H' => D.nx (σ'.set i none) H', rt := D.rt, bk := fun σ' H' => D.bk (σ'.set i none) H', ct := fun σ' H' => D.ct (σ'.set i none) H' } (σ.set i (some (.ref a))) H) ∧
      (b = false → wAsM K Wout D r cls d σ H)
inductive HdsAs (X : Cx) : List ExceptHandler → List (Value × Nat × (Addr → Value → Option Addr → TS)) → Prop
  | nil : HdsAs X [] []
  | cons {x n : Str} {c : Value} {i : Nat} {ts : Addr → Value → Option Addr → TS} {b₀ : Stmt} {suite : List Stmt} {np pos' : Pos} {hds : List ExceptHandler} {l : List (Value × Nat × (Addr → Value → Option Addr → TS))}
      (hi : X.N[i]? = some n) (hln : X.env.kindOf n = some .local) (hc : Names X x c)
      (hsu : ∀ (a : Addr) (oe : Obj) (cls : Value) (d : Option Addr) (pn : List (Addr × Obj)), Zc cls d oe → (∃ vs, oe.data = .fields vs) → PSs (X.suite a ((a, oe) :: pn)) (b₀ :: suite) (ts a cls d)) (r : HdsAs X hds l) :
      HdsAs X (.ExceptHandler (some (.Name x np)) (some n) (b₀ :: suite) pos' :: hds) ((c, i, ts) :: l)
section
variable {X : Cx} {body : List Stmt} {h₀ : ExceptHandler} {hds : List ExceptHandler} {l : List (Value × Nat × (Addr → Value → Option Addr → TS))} {pos : Pos} {tb : WX → TS} {Wout : WX}
/-- an error of the body has come to the clauses: where it stands, and the state sI without it -/
structure Came (X : Cx) (pins : List (Addr × Obj)) (σ : L2.St) (H : Hp) (a : Addr) (cls : Value) (d : Option Addr) (B : Heap) (sI s : Shared) (h : Heap) : Prop where
  inv : Inv X pins σ H sI
  nb : ∀ b o, sI.heap.get? b = some o → b ∉ frs X.stack → B.get? b = some o
  free : H a = none
  os : s.os = sI.os
  ag : AllBare s.gens
  fl : HandSPX.FlyingZ B (X.env :: X.outer) a (Zc cls d) h
  up : sI.heap.UpToSlots h
section
variable {pins : List (Addr × Obj)} {σ : L2.St} {H : Hp} {a : Addr} {cls : Value} {d : Option Addr} {B h : Heap} {sI s : Shared} {D : Ends}
theorem Came.again {h' : Heap} (c : Came X pins σ H a cls d B sI s h) (f : HandSPX.FlyingZ B (X.env :: X.outer) a (Zc cls d) h') (u : h.UpToSlots h') : Came X pins σ H a cls d B sI s h' := ⟨c.inv, c.nb, c.free, c.os, c.ag, f, c.up.trans u⟩
theorem Came.here (c : Came X pins σ H a cls d B sI s h) : Inv X pins σ H { s with heap := h } := c.inv.landed c.nb c.fl.1 c.up c.os c.ag
theorem Came.off (hf : X.env.frame = some X.env.locals) (c : Came X pins σ H a cls d B sI s h) : a ≠ X.env.locals ∧ a ∉ X.fs := by
  obtain ⟨o, vs, e1, _, e2⟩ := c.fl.there
  have out : a ∉ frs (X.env :: X.outer) := fun hm => by
    obtain ⟨_, o', e3, n⟩ := c.fl.2.2.1.mem hm
    rw [e1] at e3
    cases e3
    exact n _ e2
  constructor
  · rintro rfl
    exact out (List.mem_filterMap.mpr ⟨X.env, List.mem_cons_self, hf⟩)
  · intro hm
    obtain ⟨e, he, q⟩ := List.mem_filterMap.mp hm
    exact out (List.mem_filterMap.mpr ⟨e, List.mem_cons_of_mem _ he, q⟩)
theorem Came.in (hf : X.env.frame = some X.env.locals) (c : Came X pins σ H a cls d B sI s h) : ∃ o vs, h.get? a = some o ∧ Zc cls d o ∧ o.data = .fields vs ∧ Inv (X.suite a ((a, o) :: (X.pn ++ pins))) [] σ H { s with heap := h } := by
  obtain ⟨o, vs, e1, e2, e3⟩ := c.fl.there
  exact ⟨o, vs, e1, e2, e3, c.here.suite e1 e3 c.free (c.off hf).1 (c.off hf).2⟩
/-- no clause takes it -/
theorem Came.on (hs : X.stack = X.env :: X.outer) (hf : X.env.frame = some X.env.locals) (tk : Takes X Wout) (c : Came X pins σ H a cls d B sI s h) (w : Wout cls d σ H) : wpAny (model X.prog X.w) X.A (handleBy (.ref a) X.env []) (SP X pins D) X.xe { s with heap := h } := by
  obtain ⟨_, _, _, o, vs, T, _, _, e1, _, e3, e4, _⟩ := id c.fl
  have last : wpAny (model X.prog X.w) X.A (setFlight (.ref a) X.env.frame) (fun _ s₁ => wpAny (model X.prog X.w) X.A (throw (.ref a) : Sem Flow) (SP X pins D) X.xe s₁) X.xe { s with heap := h } := by
    rw [hf]
    exact HandSPX.setFlight_upZ c.fl fun h' held u => wpAny_throw (tk _ _ ⟨a, B, sI, pins, σ, H, cls, d, rfl, c.inv, c.nb, c.up.trans u, .inr (.inr (hs ▸ held)), c.free, c.os, c.ag, w⟩)
  refine wpAny_handleBy_nil ?_
  unfold PySem.passOn
  refine wpAny_bind (wpAny_field e1 e3 e4 ?_)
  rw [if_neg (by simp : ¬ ((Value.ref T == Value.none) = true))]
  first
    | exact wpAny_bind last
    | exact wpAny_bind (wpAny_pure (wpAny_bind last))
/-- one takes it: its suite -/
theorem Came.go {i : Nat} {n : Str} {b₀ : Stmt} {suite : List Stmt} {pos' : Pos} {ts : Addr → Value → Option Addr → TS} (ok : Cx.Ok X) (hN : X.N.Nodup) (hf : X.env.frame = some X.env.locals) (hi : X.N[i]? = some n) (hln : X.env.kindOf n = some .local)
    (hsu : ∀ (a : Addr) (oe : Obj) (cls : Value) (d : Option Addr) (pn : List (Addr × Obj)), Zc cls d oe → (∃ vs, oe.data = .fields vs) → PSs (X.suite a ((a, oe) :: pn)) (b₀ :: suite) (ts a cls d)) (c : Came X pins σ H a cls d B sI s h)
    (w : ts a cls d { nx := fun σ' H' => D.nx (σ'.set i none) H', rt := D.rt, bk := fun σ' H' => D.bk (σ'.set i none) H', ct := fun σ' H' => D.ct (σ'.set i none) H' } (σ.set i (some (.ref a))) H) (o : Obj) (vs : Array Value)
    (e2 : Zc cls d o) (e3 : o.data = .fields vs) (S : Inv (X.suite a ((a, o) :: (X.pn ++ pins))) [] σ H { s with heap := h })
    {R : Flow → Shared → Prop} {Ee Eo : Value → Shared → Prop} (hR : ∀ f s', SP X pins D f s' → R f s') :
    wpAny (model X.prog X.w) (X.A.mark (some (.ref a))) (storeName X.env n (.ref a)) (fun _ s₁ => wpAny (model X.prog X.w) (X.A.mark (some (.ref a))) (execs (b₀ :: suite) X.env) (fun f s₂ =>
      wpAny (model X.prog X.w) X.A (do bindName X.env n .none; unbindBehindTheSuite X.env n pos') (fun _ s₃ => R f s₃) X.xe s₂) Ee s₁) Eo { s with heap := h } := by
  refine store_ok (X := X.suite a ((a, o) :: (X.pn ++ pins))) (v := .ref a) S hN hi (.inl hln) rfl (fun s₁ S₁ => ?_) (.inr hln)
  refine wpAny_mono ((hsu a o cls d (X.pn ++ pins) e2 ⟨_, e3⟩).run [] s₁ _ H _ S₁ w) (fun f s₂ q => ?_) fun _ _ z => z.elim
  have close : ∀ {σ₂ : L2.St} {H₂ : Hp}, Inv (X.suite a ((a, o) :: (X.pn ++ pins))) [] σ₂ H₂ s₂ → (∀ s₃, Inv X pins (σ₂.set i none) H₂ s₃ → R f s₃) → wpAny (model X.prog X.w) X.A (do bindName X.env n .none; unbindBehindTheSuite X.env n pos') (fun _ s₃ => R f s₃) X.xe s₂ :=
    fun S₂ k => gone_ok (S₂.unsuite ok) hN hi hln k
  match f, q with
  | .next, ⟨_, _, S₂, q₂⟩ => exact close S₂ fun _ J => hR _ _ ⟨_, _, J, q₂⟩
  | .brk, ⟨_, _, S₂, q₂⟩ => exact close S₂ fun _ J => hR _ _ ⟨_, _, J, q₂⟩
  | .cont, ⟨_, _, S₂, q₂⟩ => exact close S₂ fun _ J => hR _ _ ⟨_, _, J, q₂⟩
  | .ret _, ⟨_, _, _, S₂, r, q₂⟩ => exact close S₂ fun _ J => hR _ _ ⟨_, _, _, J, r, q₂⟩
/-- the clauses, from the first on -/
theorem Came.through (ok : Cx.Ok X) (hs : X.stack = X.env :: X.outer) (hf : X.env.frame = some X.env.locals) (hN : X.N.Nodup) (tk : Takes X Wout) : ∀ {hds : List ExceptHandler} {l : List (Value × Nat × (Addr → Value → Option Addr → TS))} {h : Heap}, HdsAs X hds l → Came X pins σ H a cls d B sI s h →
    wAsM X.K Wout D l cls d σ H → wpAny (model X.prog X.w) X.A (handleBy (.ref a) X.env hds) (SP X pins D) X.xe { s with heap := h }
  | _, _, _, .nil, c, w => c.on hs hf tk w
  | _, _, h, .cons (x := x) (c := cv) (np := np) hi hln hc hsu r, c, ⟨b, hb, yes, no⟩ => by
    obtain ⟨o, vs, e1, e2, e3, S⟩ := c.in hf
    have name : ∀ {Q E : Value → Shared → Prop}, Q cv { s with heap := h } → wpAny (model X.prog X.w) (X.A.mark (some (.ref a))) (eval (.Name x np) X.env) Q E { s with heap := h } := fun {Q E} q => by
      rcases hc with ⟨g, nd, m | ⟨m, v, nn⟩⟩
      · exact ld_glob (X := X.suite a ((a, o) :: (X.pn ++ pins))) S g m q nd
      · exact ld_blt (X := X.suite a ((a, o) :: (X.pn ++ pins))) S g m v q nn nd
    have of : PySem.W.Looks (model X.prog X.w) h (typeOf (.ref a)) cls := fun _ _ _ _ k q => wpAny_typeOf_ref (k _ _ e1) (by rw [e2.1]; exact q)
    refine wpAny_handleBy_cons (codeAny_handlers_test (name ((PySem.W.exm_one (M := model X.prog X.w) c.here.kIn of hb).here ?_))) (by intro z; cases z)
    match b, yes, no with
    | false, _, no => exact Came.through ok hs hf hN tk r c (no rfl)
    | true, yes, _ =>
      refine codeAny_handlers_suite_as (HandSPX.lands_againZ c.fl fun h' f' u => ?_)
      have c' := c.again f' u
      obtain ⟨o', vs', _, e2', e3', S'⟩ := c'.in hf
      exact c'.go ok hN hf hi hln hsu (yes rfl a c.free) o' vs' e2' e3' S' fun f s' q => by
        cases f <;> exact q
end
theorem ps_try_asM (hs : X.stack = X.env :: X.outer) (hf : X.env.frame = some X.env.locals) (hN : X.N.Nodup) (tk : Takes X Wout)
    (hb : ∀ (W : WX) (pn : List (Addr × Obj)) (xe : Value → Shared → Prop), Takes (X.tr pn xe) W → PassesOwn (model X.prog X.w) X.A X.env xe → PSs (X.tr pn xe) body (tb W))
    (hh : HdsAs X (h₀ :: hds) l) : PS X (.Try body (h₀ :: hds) [] [] pos) (fun D σ H => tb (wAsM X.K Wout D l) D σ H) := by
  refine ⟨fun pins s σ H D I w => wpAny_Try_except ?_⟩
  have ok := I.ok
  refine wpAny_mono ((hb (wAsM X.K Wout D l) (X.pn ++ pins) (fun e s₁ => wpAny (model X.prog X.w) X.A (noteFrame e X.env) (fun _ s₂ => wpAny (model X.prog X.w) X.A (setFlight e none) (fun _ s₃ =>
    wpAny (model X.prog X.w) X.A (handleBy e X.env (h₀ :: hds)) (SP X pins D) X.xe s₃) X.xe s₂) X.xe s₁) ?_ PassesOwn.looking).run [] s σ H D (I.toTry _) w) ?_ fun _ _ z => z
  · rintro u s' ⟨a, B, sI, _, σ', H', cls, d, rfl, J, nb, up, sky, na, os, ag, w'⟩
    exact Sky.land Zc.steady (ok.frames.trans (by rw [hs])) hf (hs ▸ sky) fun h' fl up' => Came.through ok hs hf hN tk hh ⟨J.ofTry ok, nb, na, os, ag, fl, up.trans up'⟩ w'
  · rintro f s' q
    match f, q with
    | .next, ⟨_, _, J, q⟩ => exact wpAny_execs_nil ⟨_, _, J.ofTry ok, q⟩
    | .brk, ⟨_, _, J, q⟩ => exact ⟨_, _, J.ofTry ok, q⟩
    | .cont, ⟨_, _, J, q⟩ => exact ⟨_, _, J.ofTry ok, q⟩
    | .ret _, ⟨_, _, _, J, r, q⟩ => exact ⟨_, _, _, J.ofTry ok, r, q⟩
end
end Jf
set_option Elab.async false
set_option linter.all false
set_option maxRecDepth 100000
set_option maxHeartbeats 4000000
namespace Jf
open PySem PySem.Spec PyProof.Rows L2 HT
/-! ### t[::-1] of a tuple -/
section
variable {prog : Program} {w : World} {A : Around} {E : Value → Shared → Prop} {s : Shared}
theorem rev_adjust (n : Nat) : Builtin.Slice.sliceAdjust none none (-1) (n : Int) = ((n : Int) - 1, -1) := by
  unfold Builtin.Slice.sliceAdjust
  simp
theorem rev_places (n : Nat) : Builtin.Slice.slicePlaces ((n : Int) - 1) (-1) (-1) = n := by
  unfold Builtin.Slice.slicePlaces
  have h1 : ¬ ((-1 : Int) > 0) := by decide
  simp only [h1, if_false]
  by_cases h : (n : Int) - 1 > -1
  · rw [if_pos h, show (- -1 : Int) = 1 by decide, Int.ediv_one]
    omega
  · rw [if_neg h]
    omega
theorem sliceApplied_rev {sl : Addr} {vl vu vs : Value} {n : Nat} {Q : Int × Int × Nat → Shared → Prop} (hs : s.heap.IsSliceOf sl vl vu vs) (pl : IsPart vl none) (pu : IsPart vu none) (ps : IsPart vs (some (-1)))
    (h : Q ((n : Int) - 1, -1, n) s) : wpAny (model prog w) A (Builtin.Slice.sliceApplied (.ref sl) (pure (n : Int))) Q E s := by
  obtain ⟨os, hos, hcs, hds⟩ := id hs
  unfold Builtin.Slice.sliceApplied Builtin.Slice.sliceFields
  refine wpAny_bind (wpAny_bind (wpAny_field hos hds (x := vl) rfl (wpAny_bind (wpAny_field hos hds (x := vu) rfl (wpAny_bind (wpAny_field hos hds (x := vs) rfl (wpAny_pure ?_)))))))
  refine wpAny_bind (slicePart_ ps ?_)
  show wpAny _ _ (if ((-1 : Int) == 0) = true then _ else _) _ _ s
  rw [if_neg (by decide)]
  refine wpAny_bind (slicePart_ pl (wpAny_bind (slicePart_ pu (wpAny_bind (wpAny_pure ?_)))))
  show wpAny _ _ (match Builtin.Slice.sliceAdjust none none (-1) (n : Int) with | (lo, hi) => pure (lo, (-1 : Int), Builtin.Slice.slicePlaces lo hi (-1))) _ _ s
  rw [rev_adjust n]
  show wpAny _ _ (pure ((n : Int) - 1, (-1 : Int), Builtin.Slice.slicePlaces ((n : Int) - 1) (-1) (-1))) _ _ s
  rw [rev_places]
  exact wpAny_pure h
theorem pick_rev (xs : Array Value) : ((List.range xs.size).filterMap fun (m : Nat) => xs[((xs.size : Int) - 1 + (m : Int) * (-1)).toNat]?).toArray = xs.toList.reverse.toArray := by
  have e : (fun (m : Nat) => xs[((xs.size : Int) - 1 + (m : Int) * (-1)).toNat]?) = fun m => xs[xs.size - 1 - m]? := by
    funext m
    have : ((xs.size : Int) - 1 + (m : Int) * (-1)).toNat = xs.size - 1 - m := by omega
    rw [this]
  rw [e]
  have e2 : ((List.range xs.size).filterMap fun m => xs[xs.size - 1 - m]?) = ((List.range xs.size).map fun m => xs.size - 1 - m).filterMap (xs[·]?) := by
    rw [List.filterMap_map]
    rfl
  rw [e2, PySem.W.krv_range, List.filterMap_reverse, PySem.W.krv_all]
theorem getItem_tuple_rev {t sl : Addr} {items : Array Value} {vl vu vs : Value} {Q : Value → Shared → Prop} (ht : IsTup s.heap t items) (hs : s.heap.IsSliceOf sl vl vu vs) (pl : IsPart vl none) (pu : IsPart vu none) (ps : IsPart vs (some (-1)))
    (h : Q (.ref s.heap.objs.size) { s with heap := s.heap.push { cls := .type "tuple", data := .seq items.toList.reverse.toArray } })
    (hsz : items.size ≤ sizeLine) : wpAny (model prog w) A (getItem (.ref t) (.ref sl)) Q E s := by
  have htake : sizeOk (.seq items.toList.reverse.toArray) := by
    show items.toList.reverse.toArray.size ≤ sizeLine
    rw [List.size_toArray, List.length_reverse, Array.length_toList]
    exact hsz
  obtain ⟨os, hos, hcs, hds⟩ := id hs
  have hTs : s.TypeIs (.ref sl) "slice" := ⟨os, hos, hcs⟩
  unfold getItem
  try with_reducible refine wpAny_holding ?_
  first | refine wpAny_bind (wpAny_pure ?_) | skip
  refine wpAny_bind (wpAny_sequenceKey ht.typeIs (by decide) ?_)
  refine wpAny_bind (wpAny_callSpecial?_slot (name := Str.ofString "__getitem__") ht.typeIs PyProof.Rows.slot_tuple_getitem
    (wpAny_call_entry PyProof.Rows.slot_tuple_getitem ht.typeIs entry_tuple_getitem ?_ (args_tuple_getitem _ _)))
  show wpAny _ _ (Builtin.Tuple.tupleItemsOf (.ref t) >>= _) _ _ s
  refine wpAny_bind (tupleItemsOf_ ht ?_)
  refine wpAny_bind (wpAny_typeOf hTs ?_)
  rw [if_pos (by decide)]
  refine wpAny_bind (sliceApplied_rev hs pl pu ps ?_)
  have hno : ¬ ((((items.size : Int) - 1) == 0 && (-1 : Int) == 1 && items.size == items.size) = true) := by
    intro q
    rw [Bool.and_eq_true, Bool.and_eq_true] at q
    exact absurd q.1.2 (by decide)
  show wpAny _ _ (if (((items.size : Int) - 1) == 0 && (-1 : Int) == 1 && items.size == items.size) = true then _ else _) _ _ s
  rw [if_neg hno, pick_rev]
  first
    | exact wpAny_bind (m := Builtin.Tuple.tupleExact _) (wpAny_newObj_type (wpAny_pure ⟨_, rfl, wpAny_pure h⟩) htake)
    | exact wpAny_bind (m := Builtin.Tuple.tupleExact _) (wpAny_newObj_type (wpAny_bind (wpAny_pure (wpAny_pure ⟨_, rfl, wpAny_pure h⟩))) htake)
    | exact wpAny_bind (wpAny_bind (m := Builtin.Tuple.tupleExact _) (wpAny_newObj_type (wpAny_pure (wpAny_pure ⟨_, rfl, wpAny_pure h⟩)) htake))
    | exact wpAny_bind (wpAny_bind (m := Builtin.Tuple.tupleExact _) (wpAny_newObj_type (wpAny_pure ⟨_, rfl, wpAny_pure h⟩) htake))
end
def tRevT (K : PySem.W.Frag) (te : TE) : TE := fun σ H Q => te σ H fun x H1 => ∃ a xs, x = .ref a ∧ SqT K H1 a xs ∧ ∀ p, H1 p = none → Q (.ref p) (upd H1 p (.tup xs.reverse))
theorem pe_revT {X : Cx} {e : Expr} {te : TE} {k : Nat} {p1 p2 p3 pos : Pos} (he : PE X e te) : PE X (.Subscript e (.Slice none none (some (.UnaryOp .USub (.Constant (.int 1) k p1) p2)) p3) pos) (tRevT X.K te) := by
  refine ⟨fun pins s σ H Q I h => ?_⟩
  refine Subscript_ (thn (he.run pins s σ H _ I h) fun v s1 ⟨x, H1, I1, r1, q1⟩ => ?_)
  obtain ⟨a, xs, ex, hx, q⟩ := q1
  subst ex
  cases r1
  have hst : PO X (some (.UnaryOp .USub (.Constant (.int 1) k p1) p2)) (tPart (tUn (rU fun i => .int (-i)) (tC (.int 1)))) := po_some (pe_un un_neg pe_int)
  refine wpAny_Slice (thn (po_none.run pins s1 σ H1 (fun o H2 => o = none ∧ H2 = H1) I1 ⟨rfl, rfl⟩) fun vl s2 ⟨l, H2, I2, pl, el, e2⟩ => ?_)
  subst el e2
  refine thn (po_none.run pins s2 σ H2 (fun o H3 => o = none ∧ H3 = H2) I2 ⟨rfl, rfl⟩) fun vu s3 ⟨u, H3, I3, pu, eu, e3⟩ => ?_
  subst eu e3
  refine thn (hst.run pins s3 σ H3 (fun o H4 => o = some (-1) ∧ H4 = H3) I3 ⟨1, rfl, -1, rfl, rfl, rfl⟩) fun vs s4 ⟨o, H4, I4, ps, eo, e4⟩ => ?_
  subst eo e4
  have I5 : Inv X pins σ H4 { s4 with heap := s4.heap.push { cls := .type "slice", data := .fields #[vl, vu, vs] } } := I4.kept (t' := s4.toks) fun b ob q => Heap.get?_push_of_some _ q
  obtain ⟨its, r, ht, hz⟩ := I5.tuple hx
  have hlen := r.length
  show wpAny (model X.prog X.w) X.A (subscriptTail e (.Slice none none (some (.UnaryOp .USub (.Constant (.int 1) k p1) p2)) p3) (.ref a) (.ref s4.heap.objs.size)) (EP X pins σ Q) X.xe { s4 with heap := s4.heap.push { cls := .type "slice", data := .fields #[vl, vu, vs] } }
  refine tail_any (ops := [.ref a, .ref s4.heap.objs.size]) ht.typeIs (PyProof.Rows.slot_tuple_getitem.lookup) ?_ (by with_unfolding_all rfl)
  refine getItem_tuple_rev ht (Heap.IsSliceOf.new _ vl vu vs) pl pu ps ?_ (by rw [List.size_toArray]; omega)
  refine ⟨.ref _, _, I5.laid (t' := s4.toks) (o := .tup xs.reverse) (fun b ob q => Heap.get?_push_of_some _ q) (Nat.le_refl _) ?_, rfl, q _ (I5.hok.fresh (Nat.le_refl _))⟩
  exact ⟨by rw [List.length_reverse]; exact hz, _, r.reverse, IsTup.new _ _⟩
end Jf
set_option Elab.async false
set_option linter.all false
set_option maxRecDepth 100000
set_option maxHeartbeats 4000000
namespace Jf
open PySem PySem.Spec PyProof.Rows L2 Evl GxR
/-! ### all but tables stays -/
def ExT (H H' : Hp) : Prop := ∀ b o, (∀ ps, o ≠ HO.tbl ps) → H b = some o → H' b = some o
def TBs (Ts : List Addr) (H : Hp) : Prop := ∀ t ∈ Ts, TabG H t
section
variable {K : PySem.W.Frag} {p a : Addr} {Ts : List Addr} {H H1 H2 H' : Hp} {xs : List V} {v : V} {d : PyData} {b : Nat} {q : Rat}
theorem ExT.refl (H : Hp) : ExT H H := fun _ _ _ h => h
theorem ExT.trans (e : ExT H H1) (e' : ExT H1 H2) : ExT H H2 := fun b o n h => e' b o n (e b o n h)
theorem Ex.t (e : Ex H H') : ExT H H' := fun b o _ h => e b o h
theorem ExT.l (e : ExT H H') (h : H a = some (.lst xs)) : H' a = some (.lst xs) := e a _ (fun _ z => nomatch z) h
theorem ExT.k {kvs : List (Key × V)} (e : ExT H H') (h : H a = some (.dK kvs)) : H' a = some (.dK kvs) := e a _ (fun _ z => nomatch z) h
theorem ExT.sl (e : ExT H H') (h : SqL K H a xs) : SqL K H' a xs := by
  rcases h with (h | ⟨o, h⟩) | h
  · exact .inl (.inl (e a _ (fun _ z => nomatch z) h))
  · exact .inl (.inr ⟨o, e a _ (fun _ z => nomatch z) h⟩)
  · exact .inr h
theorem ExT.st (e : ExT H H') (h : SqT K H a xs) : SqT K H' a xs := by
  rcases h with (h | ⟨o, h⟩) | h
  · exact .inl (.inl (e a _ (fun _ z => nomatch z) h))
  · exact .inl (.inr ⟨o, e a _ (fun _ z => nomatch z) h⟩)
  · exact .inr h
end
section
variable {K : PySem.W.Frag} {p : Addr} {H H' : Hp}
mutual
theorem Dq.xt (e : ExT H H') : ∀ (d : PyData) (v : V), Dq K p H v d → Dq K p H' v d
  | _, _, .non => .non
  | _, _, .bl b => .bl b
  | _, _, .int i => .int i
  | _, _, .str x => .str x
  | _, _, .lst n m h hs => .lst n m (ExT.l e h) (DqAll.xt e _ _ hs)
  | _, _, .tup h hs => .tup (ExT.st e h) (DqAll.xt e _ _ hs)
  | _, _, .emp h => .emp (ExT.k e h)
theorem DqAll.xt (e : ExT H H') : ∀ (ds : List PyData) (vs : List V), DqAll K p H vs ds → DqAll K p H' vs ds
  | _, _, .nil => .nil
  | _, _, .cons h hs => .cons (Dq.xt e _ _ h) (DqAll.xt e _ _ hs)
end
end
section
variable {K : PySem.W.Frag} {p a : Addr} {Ts : List Addr} {H H1 H2 H' : Hp} {xs : List V} {v : V} {d : PyData} {b : Nat} {q : Rat}
theorem Fr.xt (e : ExT H H') (h : Fr K b q v H) : Fr K b q v H' := by
  obtain ⟨a, rfl, h, x⟩ := h
  exact ⟨a, rfl, e.st h, x⟩
theorem TBs.ex (h : TBs Ts H) (e : Ex H H') : TBs Ts H' := fun t ht => by
  obtain ⟨ps, h1, h2⟩ := h t ht
  exact ⟨ps, e _ _ h1, h2⟩
/-- a list's change leaves the tables -/
theorem TBs.upd {xs ys : List V} (h : TBs Ts H) (hp : H p = some (.lst xs)) (e : ∀ b o, b ≠ p → H b = some o → H' b = some o) : TBs Ts H' := fun t ht => by
  obtain ⟨ps, h1, h2⟩ := h t ht
  exact ⟨ps, e _ _ (by rintro rfl; rw [hp] at h1; cases h1) h1, h2⟩
theorem Tabd.t {T : Addr} (h : TabG H T) (t : Tabbed T H H') : ExT H H' := fun b o n e => by
  have hb : b ≠ T := by
    rintro rfl
    obtain ⟨ps, h1, _⟩ := h
    rw [e] at h1
    exact n ps (Option.some.inj h1)
  rw [t.2 b hb]
  exact e
theorem TBs.tb {T : Addr} (h : TBs Ts H) (t : Tabbed T H H') : TBs Ts H' := fun t' ht => by
  by_cases e : t' = T
  · subst e
    exact t.1
  · obtain ⟨ps, h1, h2⟩ := h t' ht
    exact ⟨ps, by rw [t.2 t' e]; exact h1, h2⟩
end
/-- a list and another: a new list, not sys.modules -/
def rCatN : R2 := fun x y H Q => ∃ l b xs zs, x = .ref l ∧ y = .ref b ∧ H l = some (.lst xs) ∧ H b = some (.lst zs) ∧ xs.length + zs.length ≤ sizeLine ∧ ∀ p, H p = none → p ≠ sysModules → Q (.ref p) (upd H p (.lst (xs ++ zs)))
theorem op_catN {X : Cx} : OpR X (binaryOp .Add) rCatN := by
  intro pins s σ H x y v u Q I rx ry h
  obtain ⟨l, b, xs, zs, rfl, rfl, hH, hB, hz, q⟩ := h
  cases rx
  cases ry
  obtain ⟨z, its, n, r, hl, e⟩ := I.lstM hH
  obtain ⟨z2, its2, n2, r2, hl2, e2⟩ := I.lstM hB
  refine PySem.P.add_list e e2 ?_ (by rw [List.size_toArray, List.size_toArray]; omega)
  have ea : its.toArray ++ its2.toArray = (its ++ its2).toArray := by simp
  rw [ea]
  exact ⟨.ref _, _, I.lnew (t' := s.toks) (r.append r2) (by rw [List.length_append]; omega), rfl, q _ I.fresh (Nat.ne_of_gt I.big)⟩
/-- a field of the error that a suite holds, whichever of our classes it is of -/
def tXfE (K : PySem.W.Frag) (a : Addr) (cls : Value) (d : Option Addr) (f : Str) (te : TE) : TE := fun σ H Q => te σ H fun x H1 => x = .ref a ∧ ∃ (C dd : Addr) (fs : List (Str × V)) (v : V), cls = .ref C ∧ XfC K C ∧ PySem.W.findIn K (.ref C) f = some none ∧ d = some dd ∧ H1 dd = some (.xd fs) ∧ fs.lookup f = some v ∧ Q v H1
theorem pe_xfE {X : Cx} {a : Addr} {oe : Obj} {cls : Value} {d : Option Addr} {pn : List (Addr × Obj)} {e : Expr} {te : TE} {pos : Pos} {n : Str}
    (hz : Zc cls d oe) (hf : ∃ vs, oe.data = .fields vs) (he : PE (X.suite a ((a, oe) :: pn)) e te) (hb : attributeBase e n X.env (eval e X.env) = eval e X.env := by rfl) :
    PE (X.suite a ((a, oe) :: pn)) (.Attribute e n pos) (tXfE X.K a cls d n te) := by
  refine ⟨fun pins s σ H Q I h => ?_⟩
  refine attr_of hb (thn (he.run pins s σ H _ I h) fun u s1 hh => ?_)
  obtain ⟨x, H1, I1, rx, ex, C, dd, fs, v, ec, T, hno, ed, ea, l, q⟩ := hh
  subst ex
  obtain rfl : u = Value.ref a := rx
  subst ec
  subst ed
  have ha := (I1.pin (a, oe) (List.mem_append_left _ List.mem_cons_self)).1
  obtain ⟨vs, hd⟩ := hf
  have hx : ObjOk X.prog X.w H1 s1.heap dd (.xd fs) := I1.hok dd _ ea
  obtain ⟨mA, hns, hr⟩ := hx
  obtain ⟨od, ho, hl⟩ := lookIn_ns hns
  obtain ⟨u, hu, ru⟩ := RelO.some_of (v := v) (o := mA n) (by rw [← l]; exact hr n)
  have J : PySem.W.InstAt s1.heap a oe C (some od) := ⟨ha, hz.1, by unfold PySem.W.notCls; rw [hd] <;> rfl, by rw [hz.2]; exact ho⟩
  exact HandSPX.exc_get I1.kIn J T.ga T.gg T.exC (PySem.W.findObj_own T.hdC hno rfl (by rw [hl, hu])) (handed_of ru) ⟨v, H1, I1.tok _, ru, q⟩
end Jf
set_option Elab.async false
set_option linter.all false
set_option maxRecDepth 100000
set_option maxHeartbeats 4000000
/-! ### enumerate(x, start=c) of a list -/
namespace PySem
open PyProof.Rows
section
variable {M : Model} {A : Around} {E : Value → Shared → Prop} {s : Shared} {env : Env}
/-- a built-in class called with keywords -/
theorem jk_callWith {pos : Pos} {T : String} {e : Expr} {rest : List Expr} {kws : List Keyword} {Q : Value → Shared → Prop}
    (h : wpAny M A (spliced (backTo pos (starEach (e :: rest) env))) (fun vs s₁ => wpAny M A (evalAll ((backToKw pos (keywordEach kws env)).map (·.2)))
      (fun kvs s₂ => wpAny M A (call (.type T) vs (((backToKw pos (keywordEach kws env)).filterMap (·.1)).zip kvs)) Q E s₂) E s₁) E s)
    (he : backTo pos (starEach (e :: rest) env) = (false, eval e env) :: backTo pos (starEach rest env) := by rfl)
    (hplain : (backTo pos (starEach (e :: rest) env)).any (·.1) = false := by rfl)
    (hall : (backToKw pos (keywordEach kws env)).all (·.1.isSome) = true := by rfl)
    (hkw : (backToKw pos (keywordEach kws env)).any (·.1.isNone) = false := by rfl) :
    wpAny M A (callWith pos (.type T) [] (backTo pos (starEach (e :: rest) env)) (backToKw pos (keywordEach kws env))) Q E s := by
  unfold callWith
  have h0 : wpAny M A (evalArgs (.type T) true (backTo pos (starEach (e :: rest) env)) (backToKw pos (keywordEach kws env))) (fun a s₁ => wpAny M A (call (.type T) ([] ++ a.pos) a.kw) Q E s₁) E s := by
    rw [he] at h ⊢
    exact evalArgs_kwB hall h
  refine wpAny_bind (wpAny_holding (wpAny_mono h0 (fun a s₁ h₁ => wpAny_bind (wpAny_standAt ?_)) fun _ _ x => x))
  simp only [hplain, hkw, Bool.or_false]
  refine wpAny_bind (wpAny_pure ?_)
  exact wpAny_bind (wpAny_mono h₁ (fun r s₂ hr => wpAny_bind (wpAny_holding (wpAny_point (wpAny_pure hr)))) fun _ _ x => x)
end
section
variable {prog : Program} {w : World} {A : Around} {E : Value → Shared → Prop} {s : Shared} {e it t : Addr} {i : Nat} {m : Int} {items : Array Value} {x old : Value}
theorem jk_enumE {Q : Option Value → Shared → Prop} (hh : A.handled = none) (he : IsEnum s.heap e it m old) (a : s.heap.IsListIter it t i) (b : s.heap.IsList t items) (hx : items[i]? = none) (k : ∀ h', Heap.ExtBut it s.heap h' → Q none { s with heap := h' }) :
    wpAny (model prog w) A (pyNext (.ref e)) Q E s := by
  have T : s.TypeIs (.ref e) "enumerate" := ⟨_, he, rfl⟩
  unfold pyNext
  refine wpAny_bind (wpAny_attempt (wpAny_callSpecial?_slot (name := Str.ofString "__next__") T F.slot_enumerate_next (wpAny_call_entry F.slot_enumerate_next T F.entry_enumerate_next
    (wpAny_bind (m := field (.ref e) 2) (wpAny_field he rfl (x := .ref it) rfl (wpAny_bind (wpAny_nextOf_list_end hh a b hx fun h' y g ⟨o, g1, g2⟩ => ?_)))) (F.args_enumerate_next_1 _))))
  exact wpAny_bind (wpAny_isInstance (T := "StopIteration") (b := true) ⟨o, g1, g2⟩ isSubtype_stop (wpAny_pure (k _ g)))
end
end PySem
namespace Jf
open PySem PySem.Spec PyProof.Rows L2 Evl
/-- the list at a, each item in a new pair with its number, counted from c -/
def IteK (K : PySem.W.Frag) (a : Addr) (c : Int) : It :=
  ⟨fun i H => ∃ (xs : List V) (x : V), SqL K H a xs ∧ xs[i]? = some x, fun i H v H' => ∃ T x, v = .ref T ∧ H T = none ∧ H' = upd H T (.tup [.int (c + (i : Nat)), x]) ∧ ∀ xs, SqL K H a xs → xs[i]? = some x, fun i H => ∃ xs : List V, SqL K H a xs ∧ xs.length ≤ i⟩
theorem turn_enumK {P : Program} {w : World} {K : PySem.W.Frag} {elts : List Expr} {kk : Nat} {tpos : Pos} (a e it : Addr) (c : Int) :
    Turn P w K (.Tuple elts kk tpos) (IteK K a c) [e, it] e (fun i h => (∃ old, IsEnum h e it (c + ((i : Nat) : Int)) old) ∧ h.IsListIter it a i ∧ e ≠ it) where
  mem := by simp
  obj := fun i h st b hb => by
    obtain ⟨⟨old, he⟩, ⟨o, ho, hc, hd⟩, _⟩ := st
    have e' : b = e ∨ b = it := by simpa using hb
    rcases e' with z | z
    · rw [z]; exact ⟨_, he, fun v q => nomatch q⟩
    · rw [z]; exact ⟨o, ho, fun v q => by rw [hd] at q; cases q⟩
  keep := fun i h h' st k => let ⟨⟨old, he⟩, hi, hne⟩ := st; ⟨⟨old, k e (by simp) _ he⟩, hi.at fun o q => k it (by simp) o q, hne⟩
  item := by
    intro X hP hw hK hc i pins s σ H E I hf st hg
    subst hP hw hK
    obtain ⟨⟨old, he⟩, hit, hne⟩ := st
    obtain ⟨xs, x, hq, hx⟩ := hg
    obtain ⟨its, rv, p, hz⟩ := I.list hq
    obtain ⟨u, hu, ru⟩ := rv.get hx
    have hel : e < s.heap.objs.size := Heap.lt_size he
    have hil : it < s.heap.objs.size := by obtain ⟨_, q, _⟩ := hit; exact Heap.lt_size q
    have ea : e ≠ a := by
      rintro rfl
      obtain ⟨o, h1, h2, _⟩ := p.isList
      rw [he] at h1
      cases h1
      exact absurd h2 (by simp)
    have ia : a ≠ it := by
      rintro rfl
      obtain ⟨o, h1, h2, _⟩ := p.isList
      obtain ⟨o', g1, g2, _⟩ := hit
      rw [h1] at g1
      cases g1
      rw [h2] at g2
      exact absurd g2 (by simp)
    have hlen := rv.length
    have hil2 : i < its.toArray.size := by
      have := (List.getElem?_eq_some_iff.mp hu).1
      simpa using this
    refine wpAny_pyNext_enum_itemC (Draws.list (prog := X.prog) (w := X.w) (A := X.A.in1) (I.ok.hd hc) it a ia its.toArray) he ⟨hit, p.isList⟩ hil2 hne (by simp [hne, ea]) fun x' h' tk hP ho hit' hT hsz hk => ?_
    obtain rfl : u = x' := by
      have hu' : its.toArray[i]? = some u := by simpa using hu
      have := hu'.symm.trans hP
      exact Option.some.inj this
    refine ⟨_, rfl, wpAny_letOwnedTupleGo_enum (s := { s with heap := h', toks := tk + 1 }) ho fun h'' he' sb => ?_⟩
    have hT2 : h''.get? s.heap.objs.size = some { cls := .type "tuple", data := .seq #[.int (c + (i : Nat)) tk, u] } := (sb.2 _ (Nat.ne_of_gt hel)).trans hT
    have new : ObjOk X.prog X.w (upd H s.heap.objs.size (.tup [.int (c + (i : Nat)), x])) h'' s.heap.objs.size (.tup [.int (c + (i : Nat)), x]) :=
      ⟨by show 2 ≤ sizeLine; decide, [.int (c + (i : Nat)) tk, u], .cons ⟨_, rfl⟩ (.cons ru .nil), ⟨_, hT2, rfl, _, rfl⟩⟩
    have I1 : Inv X pins σ (upd H s.heap.objs.size (.tup [.int (c + (i : Nat)), x])) { s with heap := h'', toks := tk + 1 } :=
      I.turnedNew (ch := [e, it]) (fun b ob hb q => (sb.2 b (fun z => hb (by simp [z]))).trans (hk b ob (fun z => hb (by simp [z])) (fun z => hb (by simp [z])) q)) hf (Nat.le_refl _) new
    refine ⟨.ref s.heap.objs.size, _, I1, rfl, ⟨_, x, rfl, I.hok.fresh (Nat.le_refl _), rfl, fun ys hy => by rw [I.list_inj hy hq]; exact hx⟩, ⟨⟨u, ?_⟩, hit'.1.at fun o q => (sb.2 it (Ne.symm hne)).trans q, hne⟩, fun b hb => ?_⟩
    · have e1 : c + ((i + 1 : Nat) : Int) = c + (i : Int) + 1 := by omega
      rw [e1]; exact he'
    · have hb' : b < s.heap.objs.size := by
        have e' : b = e ∨ b = it := by simpa using hb
        rcases e' with z | z
        · rw [z]; exact hel
        · rw [z]; exact hil
      rw [upd_ne (Nat.ne_of_lt hb')]
      exact (hf b hb).1
  done := by
    intro X hP hw hK hc i pins s σ H E I hf st hg
    subst hP hw hK
    obtain ⟨⟨old, he⟩, hit, hne⟩ := st
    obtain ⟨xs, hq, hx⟩ := hg
    obtain ⟨its, rv, p, hz⟩ := I.list hq
    obtain ⟨f0, f1, f2, f3, f4, f5⟩ := hf it (by simp)
    have hl := rv.length
    exact jk_enumE (I.ok.hd hc) he hit p.isList (by simp; omega) fun h' eb => ⟨rfl, I.turned (t' := s.toks) (fun b o hb q => eb b o hb q) f0 f1 f3 f4 f5⟩
  self := fun A i s Q E st h => let ⟨⟨_, he⟩, _⟩ := st; wpAny_pyIter_enum he h
def iEnumK (K : PySem.W.Frag) (ta tk : TA) : TI := fun σ H R => ta σ H fun vs H1 => tk σ H1 fun zs H2 => ∃ a xs c, vs = [.ref a] ∧ zs = [.int c] ∧ -(2 ^ 63) ≤ c ∧ c < 2 ^ 63 ∧ SqL K H2 a xs ∧ R (IteK K a c) H2
theorem pi_enumK {X : Cx} {e : Expr} {kws : List Keyword} {ta tk : TA} {p pos tpos : Pos} {elts : List Expr} {kk : Nat} (hg : Gl X "enumerate") (hm : X.mg "enumerate" = none) (ha : PA X [e] ta) (hk : PK X kws tk)
    (he : backTo pos (starEach [e] X.env) = (false, eval e X.env) :: backTo pos (starEach [] X.env) := by rfl) (hpl : (backTo pos (starEach [e] X.env)).any (·.1) = false := by rfl)
    (hall : (backToKw pos (keywordEach kws X.env)).all (·.1.isSome) = true := by rfl) (hnone : (backToKw pos (keywordEach kws X.env)).any (·.1.isNone) = false := by rfl) (hks : (backToKw pos (keywordEach kws X.env)).filterMap (·.1) = [Str.ofString "start"] := by rfl) :
    PI X (.Tuple elts kk tpos) (.Call (.Name "enumerate" p) [e] kws pos) (iEnumK X.K ta tk) := by
  refine ⟨fun pins s σ H R I h => ?_⟩
  refine wpAny_Call_Name_kw (ld_blt I hg hm boot_enumerate ?_)
  refine jk_callWith (thn (ha.run pos pins s σ H _ I h) fun us s1 ⟨vs, H1, I1, r1, q1⟩ => thn (hk.run pos pins s1 σ H1 _ I1 q1) fun ws s2 ⟨zs, H2, I2, r2, q2⟩ => ?_) he hpl hall hnone
  rw [hks]
  obtain ⟨a, xs, c, ex, ez, c0, c1, hq, q⟩ := q2
  subst ex ez
  obtain ⟨u, rfl, ru⟩ := vals1 r1
  obtain ⟨y, rfl, ry⟩ := vals1 r2
  cases ru
  obtain ⟨tc, rfl⟩ := ry
  obtain ⟨its, rv, p', hz⟩ := I2.list hq
  show wpAny _ _ (call (.type "enumerate") [.ref a] [(Str.ofString "start", .int c tc)]) _ _ _
  refine enum_begins_start (begins_list a its.toArray) p'.isList c0 c1 fun h' hE hit hsz hkp => wpAny_pyIter_enum hE ?_
  have I3 : Inv X pins σ H2 { s2 with heap := h' } := I2.kept (t' := s2.toks) hkp
  refine ⟨s2.heap.objs.size + 1, [s2.heap.objs.size + 1, s2.heap.objs.size], _, _, H2, rfl, I3, turn_enumK a (s2.heap.objs.size + 1) s2.heap.objs.size c, ⟨⟨.none, by
    rw [show c + ((0 : Nat) : Int) = c by omega]
    exact hE⟩, ⟨_, hit, rfl, rfl⟩, Nat.succ_ne_self _⟩, fun b hb => ?_, q⟩
  have e' : b = s2.heap.objs.size + 1 ∨ b = s2.heap.objs.size := by simpa using hb
  have hle : s2.heap.objs.size ≤ b := by
    rcases e' with z | z
    · rw [z]; exact Nat.le_add_right _ _
    · rw [z]; exact Nat.le_refl _
  exact I2.fpOk hle (I2.hok.fresh hle)
theorem walk_enumK {K : PySem.W.Frag} {a : Addr} {c : Int} {xs : List V} : Walk (IteK K a c) xs.length (fun H => SqL K H a xs) (YPair (fun i => some (.int (c + (i : Nat)))) (fun i => xs[i]?)) := by
  refine ⟨fun i _ hi q => ⟨xs, xs[i], q, by simp [hi]⟩, fun _ q => ⟨xs, q, Nat.le_refl _⟩, fun i H v H' _ q y => ?_⟩
  obtain ⟨T, x, h1, h2, h3, h4⟩ := y
  exact ⟨T, .int (c + (i : Nat)), x, h1, h2, h3, rfl, h4 xs q⟩
end Jf
set_option Elab.async false
set_option linter.all false
/-! forests of tasks: orders, the worth of an order, best orders set by set -/
namespace Jf
structure Fk where
  par : Option Nat
  pay : Rat
  fac : Rat
def parF (F : List Fk) (i : Nat) : Option Nat := (F[i]?).bind Fk.par
def payF (F : List Fk) (i : Nat) : Rat := ((F[i]?).map Fk.pay).getD 0
def facF (F : List Fk) (i : Nat) : Rat := ((F[i]?).map Fk.fac).getD 0
theorem parF_at {F : List Fk} {i : Nat} {t : Fk} (h : F[i]? = some t) : parF F i = t.par := by unfold parF; rw [h]; rfl
theorem payF_at {F : List Fk} {i : Nat} {t : Fk} (h : F[i]? = some t) : payF F i = t.pay := by unfold payF; rw [h]; rfl
theorem facF_at {F : List Fk} {i : Nat} {t : Fk} (h : F[i]? = some t) : facF F i = t.fac := by unfold facF; rw [h]; rfl
def worthF (F : List Fk) : List Nat → Rat
  | [] => 0
  | i :: r => payF F i + facF F i * worthF F r
def prodF (F : List Fk) : List Nat → Rat
  | [] => 1
  | i :: r => facF F i * prodF F r
theorem worth_app (F : List Fk) : ∀ a b : List Nat, worthF F (a ++ b) = worthF F a + prodF F a * worthF F b
  | [], b => by
    show worthF F b = 0 + 1 * worthF F b
    grind
  | i :: a, b => by
    show payF F i + facF F i * worthF F (a ++ b) = (payF F i + facF F i * worthF F a) + (facF F i * prodF F a) * worthF F b
    rw [worth_app F a b]
    grind
theorem prod_app (F : List Fk) : ∀ a b : List Nat, prodF F (a ++ b) = prodF F a * prodF F b
  | [], b => by
    show prodF F b = 1 * prodF F b
    grind
  | i :: a, b => by
    show facF F i * prodF F (a ++ b) = (facF F i * prodF F a) * prodF F b
    rw [prod_app F a b]
    grind
/-- whether a parent, if there is one, is told -/
def upL (o : Option Nat) (told : List Nat) : Bool := match o with
  | none => true
  | some p => decide (p ∈ told)
def okL (F : List Fk) (told : List Nat) (i : Nat) : Bool := decide (i < F.length) && (!decide (i ∈ told) && upL (parF F i) told)
def seqL (F : List Fk) : List Nat → List Nat → Bool
  | _, [] => true
  | told, i :: r => okL F told i && seqL F (told ++ [i]) r
theorem seqL_app (F : List Fk) : ∀ (a told b : List Nat), seqL F told (a ++ b) = (seqL F told a && seqL F (told ++ a) b)
  | [], told, b => by simp [seqL]
  | i :: a, told, b => by
    show (okL F told i && seqL F (told ++ [i]) (a ++ b)) = ((okL F told i && seqL F (told ++ [i]) a) && seqL F (told ++ i :: a) b)
    rw [seqL_app F a, Bool.and_assoc, List.append_assoc]
    rfl
/-- all orders of so many tasks, one longer each -/
def rowsF (F : List Fk) : Nat → List (List Nat)
  | 0 => [[]]
  | k + 1 => (rowsF F k).flatMap fun r => ((List.range F.length).filter (okL F r)).map fun i => r ++ [i]
theorem mem_rows (F : List Fk) : ∀ (k : Nat) (l : List Nat), l ∈ rowsF F k ↔ l.length = k ∧ seqL F [] l = true
  | 0, l => by
    show l ∈ [[]] ↔ _
    rw [List.mem_singleton, List.length_eq_zero_iff]
    constructor
    · rintro rfl
      exact ⟨rfl, rfl⟩
    · exact fun h => h.1
  | k + 1, l => by
    show l ∈ (rowsF F k).flatMap _ ↔ _
    rw [List.mem_flatMap]
    constructor
    · rintro ⟨r, hr, hl⟩
      obtain ⟨h1, h2⟩ := (mem_rows F k r).mp hr
      obtain ⟨i, hi, rfl⟩ := List.mem_map.mp hl
      obtain ⟨_, h3⟩ := List.mem_filter.mp hi
      refine ⟨by rw [List.length_append, h1]; rfl, ?_⟩
      rw [seqL_app, h2, Bool.true_and, List.nil_append]
      show (okL F r i && true) = true
      rw [h3]
      rfl
    · rintro ⟨h1, h2⟩
      obtain ⟨r, i, rfl⟩ : ∃ r i, l = r ++ [i] := by
        cases hl : l.reverse with
        | nil =>
          have := congrArg List.length hl
          rw [List.length_reverse, h1] at this
          cases this
        | cons i r => exact ⟨r.reverse, i, by rw [← List.reverse_reverse l, hl, List.reverse_cons]⟩
      rw [seqL_app, Bool.and_eq_true, List.nil_append] at h2
      have h3 : okL F r i = true := by
        have := h2.2
        show okL F r i = true
        simpa [seqL] using this
      refine ⟨r, (mem_rows F k r).mpr ⟨by simpa using h1, h2.1⟩, List.mem_map.mpr ⟨i, List.mem_filter.mpr ⟨?_, h3⟩, rfl⟩⟩
      unfold okL at h3
      simp only [Bool.and_eq_true, decide_eq_true_eq] at h3
      exact List.mem_range.mpr h3.1
theorem seqL_lt (F : List Fk) : ∀ (l told : List Nat), seqL F told l = true → ∀ i ∈ l, i < F.length
  | [], _, _, i, h => nomatch h
  | j :: r, told, h, i, hi => by
    simp only [seqL, Bool.and_eq_true] at h
    rcases List.mem_cons.mp hi with rfl | hi
    · have := h.1
      unfold okL at this
      simp only [Bool.and_eq_true, decide_eq_true_eq] at this
      exact this.1
    · exact seqL_lt F r _ h.2 i hi
/-! by bits -/
def addD (d i : Nat) : Nat := d ||| 2 ^ i
theorem add_bit (d i j : Nat) : (addD d i).testBit j = (d.testBit j || decide (i = j)) := by
  unfold addD
  rw [Nat.testBit_or, Nat.testBit_two_pow]
def upD (o : Option Nat) (d : Nat) : Bool := match o with
  | none => true
  | some p => d.testBit p
def okD (F : List Fk) (d i : Nat) : Bool := decide (i < F.length) && (!d.testBit i && upD (parF F i) d)
def seqD (F : List Fk) : Nat → List Nat → Bool
  | _, [] => true
  | d, i :: r => okD F d i && seqD F (addD d i) r
/-- the bits of what is told -/
def Told (d : Nat) (told : List Nat) : Prop := ∀ i, d.testBit i = decide (i ∈ told)
theorem Told.nil : Told 0 [] := fun i => by simp
theorem Told.add {d i : Nat} {told : List Nat} (h : Told d told) : Told (addD d i) (told ++ [i]) := fun j => by
  rw [add_bit, h j, Bool.eq_iff_iff, Bool.or_eq_true, decide_eq_true_iff, decide_eq_true_iff, decide_eq_true_iff, List.mem_append, List.mem_singleton]
  exact or_congr Iff.rfl eq_comm
theorem Told.ok {F : List Fk} {d : Nat} {told : List Nat} (h : Told d told) (i : Nat) : okD F d i = okL F told i := by
  unfold okD okL
  rw [h i]
  congr 2
  cases parF F i with
  | none => rfl
  | some p => exact h p
theorem Told.seq {F : List Fk} : ∀ (l : List Nat) {d : Nat} {told : List Nat}, Told d told → seqD F d l = seqL F told l
  | [], _, _, _ => rfl
  | i :: r, d, told, h => by
    show (okD F d i && seqD F (addD d i) r) = (okL F told i && seqL F (told ++ [i]) r)
    rw [h.ok, Told.seq r h.add]
/-- how many of the first n are told -/
def cntD (d : Nat) : Nat → Nat
  | 0 => 0
  | n + 1 => cntD d n + (if d.testBit n then 1 else 0)
theorem cnt_le (d : Nat) : ∀ n, cntD d n ≤ n
  | 0 => Nat.le_refl _
  | n + 1 => by
    have := cnt_le d n
    unfold cntD
    split <;> omega
theorem cnt_add {d i : Nat} (h : d.testBit i = false) : ∀ n, cntD (addD d i) n = cntD d n + (if i < n then 1 else 0)
  | 0 => rfl
  | n + 1 => by
    unfold cntD
    rw [cnt_add h n, add_bit]
    by_cases e : i = n
    · subst e
      rw [h]
      simp
    · by_cases l : i < n
      · simp [e, l, Nat.lt_succ_of_lt l]; omega
      · have : ¬ i < n + 1 := by omega
        simp [e, l, this]
theorem cnt_full {d : Nat} : ∀ {n}, cntD d n = n → ∀ i, i < n → d.testBit i = true
  | 0, _, i, h => absurd h (Nat.not_lt_zero _)
  | n + 1, h, i, hi => by
    unfold cntD at h
    have l := cnt_le d n
    by_cases b : d.testBit n
    · rw [if_pos b] at h
      by_cases e : i = n
      · rw [e]; exact b
      · exact cnt_full (n := n) (by omega) i (by omega)
    · rw [if_neg b] at h
      omega
theorem every_bit (n i : Nat) : (2 ^ n - 1).testBit i = decide (i < n) := Nat.testBit_two_pow_sub_one n i
theorem cnt_every : ∀ (m n : Nat), n ≤ m → cntD (2 ^ m - 1) n = n
  | m, 0, _ => rfl
  | m, n + 1, h => by
    unfold cntD
    rw [cnt_every m n (by omega), every_bit, decide_eq_true (show n < m by omega), if_pos rfl]
theorem cnt_zero : ∀ n, cntD 0 n = 0
  | 0 => rfl
  | n + 1 => by
    unfold cntD
    rw [cnt_zero n]
    simp
theorem full_every {d n : Nat} (hd : d < 2 ^ n) (h : cntD d n = n) : d = 2 ^ n - 1 := by
  refine Nat.eq_of_testBit_eq fun i => ?_
  rw [every_bit]
  by_cases l : i < n
  · rw [cnt_full h i l, decide_eq_true l]
  · rw [decide_eq_false l]
    exact Nat.testBit_lt_two_pow (Nat.lt_of_lt_of_le hd (Nat.pow_le_pow_right (by decide) (by omega)))
theorem add_lt {d i n : Nat} (hd : d < 2 ^ n) (hi : i < n) : addD d i < 2 ^ n := Nat.or_lt_two_pow hd (Nat.pow_lt_pow_right (by decide) hi)
theorem add_gt {d i : Nat} (h : d.testBit i = false) : d < addD d i := by
  have h1 : d ≤ addD d i := Nat.left_le_or
  have h2 : d ≠ addD d i := fun e => by
    have : d.testBit i = (addD d i).testBit i := congrArg (fun z : Nat => z.testBit i) e
    rw [add_bit, h] at this
    simp at this
  omega
theorem okD_lt {F : List Fk} {d i : Nat} (h : okD F d i = true) : i < F.length := by
  unfold okD at h
  simp only [Bool.and_eq_true, decide_eq_true_eq] at h
  exact h.1
theorem okD_bit {F : List Fk} {d i : Nat} (h : okD F d i = true) : d.testBit i = false := by
  unfold okD at h
  simp only [Bool.and_eq_true, Bool.not_eq_true'] at h
  exact h.2.1
theorem okD_cnt {F : List Fk} {d i : Nat} (h : okD F d i = true) : cntD (addD d i) F.length = cntD d F.length + 1 := by
  rw [cnt_add (okD_bit h), if_pos (okD_lt h)]
/-- a whole order from d on -/
def Full (F : List Fk) (d : Nat) (l : List Nat) : Prop := seqD F d l = true ∧ cntD d F.length + l.length = F.length
theorem full_cons {F : List Fk} {d i : Nat} {r : List Nat} : Full F d (i :: r) ↔ okD F d i = true ∧ Full F (addD d i) r := by
  unfold Full
  constructor
  · rintro ⟨h1, h2⟩
    simp only [seqD, Bool.and_eq_true] at h1
    refine ⟨h1.1, h1.2, ?_⟩
    rw [okD_cnt h1.1]
    rw [List.length_cons] at h2
    omega
  · rintro ⟨h1, h2, h3⟩
    rw [okD_cnt h1] at h3
    exact ⟨by simp [seqD, h1, h2], by rw [List.length_cons]; omega⟩
theorem full_iff {F : List Fk} {l : List Nat} : Full F 0 l ↔ l ∈ rowsF F F.length := by
  unfold Full
  rw [mem_rows, Told.nil.seq, cnt_zero, Nat.zero_add]
  exact ⟨fun h => ⟨h.2, h.1⟩, fun h => ⟨h.2, h.1⟩⟩
/-- every set that is not all has a task that is open, where parents stand ahead -/
theorem open_one {F : List Fk} (wf : ∀ i p, parF F i = some p → p < i) {d : Nat} (hd : d < 2 ^ F.length) (hn : d ≠ 2 ^ F.length - 1) : ∃ i, okD F d i = true := by
  have h1 : ∃ i, i < F.length ∧ d.testBit i = false := by
    apply Classical.byContradiction
    intro no
    refine hn (Nat.eq_of_testBit_eq fun i => ?_)
    rw [every_bit]
    by_cases l : i < F.length
    · rw [decide_eq_true l]
      cases hb : d.testBit i with
      | true => rfl
      | false => exact absurd ⟨i, l, hb⟩ no
    · rw [decide_eq_false l]
      exact Nat.testBit_lt_two_pow (Nat.lt_of_lt_of_le hd (Nat.pow_le_pow_right (by decide) (by omega)))
  have h2 : ∀ k i, i ≤ k → i < F.length → d.testBit i = false → ∃ i, okD F d i = true := by
    intro k
    induction k with
    | zero =>
      intro i l hi hb
      have : i = 0 := by omega
      subst this
      refine ⟨0, ?_⟩
      unfold okD
      rw [decide_eq_true hi, hb]
      cases hp : parF F 0 with
      | none => rfl
      | some p => exact absurd (wf 0 p hp) (Nat.not_lt_zero _)
    | succ k ih =>
      intro i l hi hb
      cases hp : parF F i with
      | none =>
        refine ⟨i, ?_⟩
        unfold okD
        rw [decide_eq_true hi, hb, hp]
        rfl
      | some p =>
        have lp := wf i p hp
        cases hq : d.testBit p with
        | false => exact ih p (by omega) (by omega) hq
        | true =>
          refine ⟨i, ?_⟩
          unfold okD
          rw [decide_eq_true hi, hb, hp]
          show (true && (!false && d.testBit p)) = true
          rw [hq]
          rfl
  obtain ⟨i, hi, hb⟩ := h1
  exact h2 i i (Nat.le_refl _) hi hb
structure Best (F : List Fk) (d : Nat) (q : Rat) (o : Option Nat) : Prop where
  has : ∃ l, Full F d l ∧ worthF F l = q ∧ l.head? = o
  most : ∀ l, Full F d l → worthF F l ≤ q
theorem Best.every (F : List Fk) : Best F (2 ^ F.length - 1) 0 none where
  has := ⟨[], ⟨rfl, by rw [cnt_every _ _ (Nat.le_refl _)]; rfl⟩, rfl, rfl⟩
  most := by
    rintro (_ | ⟨i, r⟩) h
    · exact Rat.le_refl
    · have := h.2
      rw [cnt_every _ _ (Nat.le_refl _), List.length_cons] at this
      omega
/-- one more task -/
theorem Best.step {F : List Fk} {d i : Nat} {q : Rat} (f0 : ∀ j, 0 ≤ facF F j) (g : ∀ j, okD F d j = true → ∃ b o, Best F (addD d j) b o ∧ payF F j + facF F j * b ≤ q) (hi : okD F d i = true) {b : Rat} {o : Option Nat} (hb : Best F (addD d i) b o) (hq : q = payF F i + facF F i * b) : Best F d q (some i) where
  has := by
    obtain ⟨l, h1, h2, h3⟩ := hb.has
    exact ⟨i :: l, full_cons.mpr ⟨hi, h1⟩, by show payF F i + facF F i * worthF F l = q; rw [h2, hq], rfl⟩
  most := by
    rintro (_ | ⟨j, r⟩) h
    · exfalso
      have h1 := h.2
      have h2 := okD_cnt hi
      have h3 := cnt_le (addD d i) F.length
      simp at h1
      omega
    · obtain ⟨hj, hr⟩ := full_cons.mp h
      obtain ⟨b', o', hb', le⟩ := g j hj
      have h1 := hb'.most r hr
      have h2 := Rat.mul_le_mul_of_nonneg_left h1 (f0 j)
      show payF F j + facF F j * worthF F r ≤ q
      grind
theorem Best.next {F : List Fk} {d i : Nat} {q : Rat} (f0 : ∀ j, 0 ≤ facF F j) (h : Best F d q (some i)) : okD F d i = true ∧ ∀ b o, Best F (addD d i) b o → q = payF F i + facF F i * b := by
  obtain ⟨l, h1, h2, h3⟩ := h.has
  cases l with
  | nil => cases h3
  | cons j r =>
    cases h3
    obtain ⟨hj, hr⟩ := full_cons.mp h1
    refine ⟨hj, fun b o hb => ?_⟩
    have a1 := hb.most r hr
    have a2 := Rat.mul_le_mul_of_nonneg_left a1 (f0 i)
    obtain ⟨l', h1', h2', _⟩ := hb.has
    have a3 := h.most (i :: l') (full_cons.mpr ⟨hj, h1'⟩)
    have e : payF F i + facF F i * worthF F r = q := h2
    have e' : worthF F (i :: l') = payF F i + facF F i * worthF F l' := rfl
    rw [e', h2'] at a3
    grind
theorem Best.stop {F : List Fk} {d : Nat} {q : Rat} (h : Best F d q none) : q = 0 ∧ Full F d [] := by
  obtain ⟨l, h1, h2, h3⟩ := h.has
  cases l with
  | nil => exact ⟨h2.symm, h1⟩
  | cons j r => cases h3
end Jf
set_option Elab.async false
set_option linter.all false
set_option maxRecDepth 100000
set_option maxHeartbeats 4000000
namespace Jf
open PySem PySem.Spec PyProof.Rows L2 Evl
/-- a list cut: a new list, not sys.modules -/
def rSlN (K : PySem.W.Frag) : V → Option Int → Option Int → Hp → VK → Prop := fun x lo hi H Q => ∃ a xs, x = .ref a ∧ SqL K H a xs ∧ ∀ p, H p = none → p ≠ sysModules → Q (.ref p) (upd H p (.lst (cutV xs lo hi)))
theorem sl_listN {X : Cx} : SlR X (rSlN X.K) := by
  intro pins s σ H x v vl vu lo hi sl Q I rx hs pl pu h
  obtain ⟨a, xs, rfl, hx, q⟩ := h
  cases rx
  obtain ⟨its, r, ht, hz⟩ := I.list hx
  have hlen := r.length
  refine ⟨"list", _, slot_list_getitem.lookup, ht.isList.typeIs, ?_⟩
  refine wpAny_getItem_list_slice ht.isList hs pl pu .none (by simp) ?_ (by rw [List.size_toArray] <;> omega)
  rw [slicePick_cut, ← hlen]
  have fr := I.hok.fresh (Nat.le_refl s.heap.objs.size)
  refine ⟨.ref s.heap.objs.size, _, I.laid (t' := s.toks) (o := .lst (cutV xs lo hi)) (fun b ob q => Heap.get?_push_of_some _ q) (Nat.le_refl _) ?_, rfl, q _ fr (Nat.ne_of_gt I.big)⟩
  exact ⟨Nat.le_trans (cutV_length xs lo hi) hz, _, 0, (r.drop (HT.sIx xs.length 0 lo)).take (HT.sIx xs.length xs.length hi - HT.sIx xs.length 0 lo), Heap.get?_push_size _ rfl⟩
end Jf
set_option Elab.async false
set_option linter.all false
set_option maxRecDepth 100000
set_option maxHeartbeats 4000000
namespace Jf
open PySem PySem.Spec PyProof.Rows L2 Evl
/-! sorted(d), d a dict whose keys are tuples of so many ints from 0 to 7 -/
theorem swo_by (k : Value → Int) : SrtO.Swo fun v u => decide (k v < k u) := by
  refine ⟨fun x y h => ?_, fun x y z h1 h2 => ?_⟩
  · have := of_decide_eq_true h
    exact decide_eq_false (by omega)
  · have := of_decide_eq_false h1
    have := of_decide_eq_false h2
    exact decide_eq_false (by omega)
section
variable {prog : Program} {w : World} {A : Around} {s : Shared}
theorem tups_sortable {d : Nat} {B : Int} {a : Addr} {vs : List Value} (hd : 1 ≤ d) (h2 : 2 ≤ vs.length) (x : TS.TupsOk s.heap d B vs) (ha : ∀ o, s.heap.get? a = some o → o.cls ≠ .type "tuple") :
    SrtO.SortableO prog w A s a vs fun v u => decide (TS.code B (TS.intsOf s.heap v) < TS.code B (TS.intsOf s.heap u)) := by
  intro h' keep
  have kk : ∀ b o, s.heap.get? b = some o → o.cls = .type "tuple" → h'.get? b = some o := fun b o e c => keep b o (fun z => by subst z; exact ha o e c) e
  have x' := x.keeps kk
  obtain ⟨fs, k, hl, hi⟩ := TS.firsts_of hd vs x'
  refine ⟨tuples' true, fun Q E hq => ?_, fun p q hp hq => ?_⟩
  · refine PySem.W.kat_kind (T := .type "int") k (by omega) (fun f hm => ?_) (by rfl) ?_
    · obtain ⟨n, t, rfl⟩ := hi f hm
      exact PySem.W.Looks.now
    · have e : (Value.type "int" != Value.type "tuple") = true := by first | decide +kernel | rfl | decide
      rw [e]
      exact hq
  · obtain ⟨ns, tp, lp, bp⟩ := x _ hp
    obtain ⟨ms, tq, lq, bq⟩ := x _ hq
    have ep := tp.ints
    have eq := tq.ints
    obtain ⟨b, xs, e1, ⟨o, ho, hc, n, hdt⟩, i⟩ := tp.keeps kk
    obtain ⟨b', ys, e2, ⟨o', ho', hc', n', hdt'⟩, i'⟩ := tq.keeps kk
    show wpAny (model prog w) A (keyLt' (tuples' true) p.1 q.1) (fun r s' => s' = { s with heap := h' } ∧ r = decide (TS.code B (TS.intsOf s.heap p.1) < TS.code B (TS.intsOf s.heap q.1))) (fun _ _ => False) { s with heap := h' }
    rw [ep, eq, e1, e2]
    refine PySem.W.kat_lt ho hdt ho' hdt' ?_
    have sz : decide (xs.size < ys.size) = false := by
      have l1 := i.length
      have l2 := i'.length
      rw [Array.length_toList] at l1 l2
      exact decide_eq_false (by omega)
    rw [sz]
    exact TS.lex_ints (Q := fun r s' => s' = { s with heap := h' } ∧ r = decide (TS.code B ns < TS.code B ms)) 0 i i' (by omega) bp bq ⟨rfl, rfl⟩
end
theorem keys_ints : ∀ {ns : List Int} {its : List Value}, Vals ((ns.map Sum.inl : List L2.Key).map kV) its → IntsAre its ns
  | [], _, .nil => .nil
  | n :: ns, _, .cons r t => by
    obtain ⟨tk, rfl⟩ := r
    exact .cons _ _ (keys_ints t)
def rSortDT : List V → Hp → VK → Prop := fun xs H Q => ∃ (m : Nat) (d : Addr) (kvs : List (List L2.Key × V)), xs = [V.ref d] ∧ Rd H d (.dT kvs) ∧ (1 ≤ m ∨ kvs.length ≤ 1) ∧ (∀ p ∈ kvs, ∃ ns : List Int, p.1 = ns.map Sum.inl ∧ ns.length = m ∧ TS.Bd 8 ns) ∧
  ∀ (p : Addr) (bs cs : List Addr), H p = none → IsKeys H kvs bs → cs.Perm bs → Q (.ref p) (upd H p (.lst (cs.map V.ref)))
def bkA : Value → Addr
  | .ref a => a
  | _ => 0
theorem bkA_refs (bs : List Addr) : (bs.map Value.ref).map bkA = bs := by
  rw [List.map_map]
  exact List.map_id' bs
theorem cr_sortDT {X : Cx} (hcalm : X.calm = true) : CallR X (.builtin "sorted") rSortDT := by
  intro pins s σ H xs us Q I r h
  obtain ⟨m, d, kvs, rfl, hd, hm, hk, q⟩ := h
  obtain ⟨u, rfl, rx⟩ := r.one
  cases rx
  obtain ⟨z, hs, ks, pr, o, es, ep, ho, hx, hdt, he, hn⟩ := (show ObjOk X.prog X.w H s.heap d (.dT kvs) from hd.ok I.hok)
  have l1 : es.size = ks.length := size_of_entries he
  have l2 : kvs.length = ks.length := Paired.length pr
  refine Calls.call_function_entry PyProof.Rows.kind_sorted PyProof.Rows.plain_sorted PyProof.Rows.entry_sorted (PyProof.Rows.args_sorted1 _) ?_
  unfold Builtin.«sorted»
  refine wpAny_bind (m := checkCount "sorted" 1 1 _) (wpAny_pure ?_)
  refine wpAny_bind (PySem.W.kdu_collect (A := X.A.in1) (kdl_raw hs hx hdt) (I.ok.hd hcalm) ho (by omega) fun h' tk acc kp it => ?_)
  have ea : acc.toList = (ks.map fun x => x.2.1).map Value.ref := by
    rw [List.map_map]
    have hl : acc.toList.length = ks.length := by rw [Array.length_toList, it.1]; exact l1
    apply List.ext_getElem?
    intro j
    rw [List.getElem?_map]
    cases hj : acc.toList[j]? with
    | none =>
      have h1 := List.getElem?_eq_none_iff.mp hj
      rw [List.getElem?_eq_none (by omega)]
      all_goals rfl
    | some v =>
      obtain ⟨en, hen, hv⟩ := it.2 j v (by rw [← Array.getElem?_toList]; exact hj)
      have qe := entry_at he j
      rw [hen] at qe
      cases hb : ks[j]? with
      | none =>
        rw [hb] at qe
        exact nomatch (show some en = none from qe)
      | some b =>
        rw [hb] at qe
        have e2 : en = entryOfKey (tupleKind (mixKind X.prog X.w)) b := Option.some.inj qe
        rw [hv, e2]
        all_goals rfl
  have ik := isKeys_of pr
  generalize (ks.map fun x => x.2.1) = bs at ea ik
  have lb : bs.length = kvs.length := ik.length.symm
  rw [ea]
  have hz : (bs.map Value.ref).length ≤ sizeLine := by rw [List.length_map]; omega
  have I1 : Inv X pins σ H { s with heap := h', toks := tk } := I.kept kp
  have tu : TS.TupsOk s.heap m 8 (bs.map Value.ref) := fun v hv => by
    obtain ⟨b, hb, rfl⟩ := List.mem_map.mp hv
    obtain ⟨j, hj⟩ := List.mem_iff_getElem?.mp hb
    obtain ⟨p, hp, hbt⟩ := L2.DX.pget ik hj
    obtain ⟨ns, e, ln, bd⟩ := hk p (List.mem_of_getElem? hp)
    rw [e] at hbt
    obtain ⟨_, its, rv, hT⟩ := (show ObjOk X.prog X.w H s.heap b (.tup ((ns.map Sum.inl).map kV)) from I.hok b _ hbt)
    exact ⟨ns, ⟨b, its.toArray, rfl, hT, keys_ints rv⟩, ln, bd⟩
  refine wpAny_bind (wpAny_newList ?_ hz)
  have hoL : (h'.push (seqObj "list" (bs.map Value.ref).toArray 0)).get? h'.objs.size = some (seqObj "list" (bs.map Value.ref).toArray 0) := Heap.get?_push_size _ rfl
  show wpAny _ _ _ _ _ { s with heap := h'.push (seqObj "list" (bs.map Value.ref).toArray 0), toks := tk }
  refine wpAny_bind (wpAny_holding (wpAny_call_entry PyProof.Rows.slot_list_sort ⟨_, hoL, rfl⟩ PyProof.Rows.entry_list_sort
    (SrtO.list_sort_ord (s := { s with heap := h'.push (seqObj "list" (bs.map Value.ref).toArray 0), toks := tk }) (swo_by fun v => TS.code 8 (TS.intsOf (h'.push (seqObj "list" (bs.map Value.ref).toArray 0)) v)) hoL hz (fun h2 => ?_) fun out h1 h2 => ⟨_, rfl, ?_⟩) (PyProof.Rows.args_list_sort _)))
  · refine tups_sortable (d := m) (B := 8) (s := { s with heap := h'.push (seqObj "list" (bs.map Value.ref).toArray 0), toks := tk }) ?_ h2 (tu.keeps fun b o e _ => Heap.get?_push_of_some _ (kp b o e)) fun o e c => ?_
    · rw [List.length_map] at h2
      omega
    · have e' : some o = some (seqObj "list" (bs.map Value.ref).toArray 0) := e.symm.trans hoL
      cases e'
      exact absurd (Value.type.inj c) (by decide)
  · obtain ⟨e', he'⟩ := PyProof.Rows.sortedHeap_at (vs := bs.map Value.ref) (out := out.toArray) hoL
    have pm : (out.map bkA).Perm bs := by
      have := h2.perm.map bkA
      rw [bkA_refs] at this
      exact this
    have eo : out = (out.map bkA).map Value.ref := by
      rw [List.map_map]
      conv => lhs; rw [← List.map_id out]
      refine List.map_congr_left fun v hv => ?_
      obtain ⟨b, _, rfl⟩ := List.mem_map.mp (h2.perm.mem_iff.mp hv)
      rfl
    have hlen : ((out.map bkA).map V.ref).length ≤ sizeLine := by
      rw [List.length_map, pm.length_eq, lb]
      exact z
    have rvO : Vals ((out.map bkA).map V.ref) out := by
      conv => rhs; rw [eo]
      exact vals_refs _
    refine wpAny_pure ⟨_, rfl, .ref h'.objs.size, upd H h'.objs.size (.lst ((out.map bkA).map V.ref)), I1.laid (t' := tk) (fun b u e => ?_) (Nat.le_refl _)
      (show ObjOk X.prog X.w _ _ _ (.lst ((out.map bkA).map V.ref)) from ⟨hlen, out, e', rvO, he'⟩), rfl, q _ _ _ (I1.hok.fresh (Nat.le_refl _)) ik pm⟩
    have hb : b < h'.objs.size := Heap.lt_size e
    rw [PyProof.Rows.sortedHeap_old (Nat.ne_of_lt hb) (by rw [size_push']; exact Nat.lt_succ_of_lt hb)]
    exact Heap.get?_push_of_some _ e
/-! {k: v}, k a tuple -/
def tDisp1T (trs : List (TE × TE)) : TE := fun σ H Q => ∀ p, H p = none → tPairs trs σ (upd H p (.dT [])) fun ps H2 => H2 p = some (.dT []) ∧ ∃ (k : List L2.Key) (b : Addr) (y : V), ps = [(V.ref b, y)] ∧ H2 b = some (.tup (k.map kV)) ∧ Q (.ref p) (upd H2 p (.dT [(k, y)]))
theorem pe_disp1T {X : Cx} {pos : Pos} {keys : List (Option Expr)} {values : List Expr} {trs : List (TE × TE)} (hu : X.A.units + 1 < cLine) (h : PPs X pos keys values trs) (hall : keys.all (·.isSome) = true) (hl : keys.length = values.length) (h0 : keys ≠ [])
    (h15 : keys.length ≤ 15) : PE X (.Dict keys values pos) (tDisp1T trs) := by
  refine ⟨fun pins s σ H Q I q => ?_⟩
  have hn := I.hok.fresh (Nat.le_refl s.heap.objs.size)
  have I1 := I.laid (a := s.heap.objs.size) (o := .dT []) (h' := s.heap.push { cls := .type "dict", data := .dict #[] }) (t' := s.toks) (fun _ _ q => Heap.get?_push_of_some _ q) (Nat.le_refl _) (dt_empty s.heap I.big)
  have hnl := pairTrees_length keys values X.env pos hall hl
  have ne : pairTrees keys values X.env pos ≠ [] := fun e => by
    rw [e] at hnl
    exact h0 (List.length_eq_zero_iff.mp hnl.symm)
  rw [arm_eval_Dict, zip_pairTrees keys values X.env pos hall hl, dictDisplay_pairs _ ne (by omega)]
  refine wpAny_bind (wpAny_standAt (wpAny_bind (wpAny_subDictH (knd := tupleKind (mixKind X.prog X.w)) (by show X.A.units < cLine; omega) (by omega) (thn (h.run pins _ σ _ _ I1 (q _ hn)) fun ws s2 ⟨ps, H2, I2, rel, e, k, b, y, ep, hb, q2⟩ => ?_))))
  subst ep
  obtain ⟨kv, yv, ew, ra, rb⟩ : ∃ kv yv, ws = [(kv, yv)] ∧ RelV (.ref b) kv ∧ RelV y yv := by
    cases rel with
    | @cons p q ps qs r1 r2 =>
      cases r2
      exact ⟨q.1, q.2, rfl, r1.1, r1.2⟩
  subst ew
  cases (show kv = Value.ref b from ra)
  obtain ⟨z, hd, xs, r0, dd⟩ := dt_of I2.hok e
  cases r0
  refine ⟨[(k, b, yv)], ⟨rfl, rfl, key_of I2.hok hb, trivial⟩, dd, fun h' tk dd' hs => wpAny_pure ⟨.ref s.heap.objs.size, _, ?_, rfl, q2⟩⟩
  obtain ⟨q, es, ep, hq, h2, h3, h4, _, h5⟩ := dd'
  refine d_write I2 (by rw [e]; exact True.intro) hs ⟨q, hq⟩ ⟨?_, hd, _, .cons ⟨rfl, ?_, rb⟩ .nil, q, es, ep, hq, h2, h3, h4, h5⟩
  · show 1 ≤ sizeLine
    decide
  · show upd H2 _ _ b = _
    rw [upd_ne (ne_of hb e (fun z => nomatch z))]
    exact hb
/-! sorted(t), t a tuple of ints -/
section
variable {prog : Program} {w : World} {A : Around} {E : Value → Shared → Prop} {s : Shared}
theorem collect_tupI {l : Addr} {vs : List Value} {R : List Value → Shared → Prop} (hl : IsTup s.heap l vs.toArray) (hz : vs.length ≤ sizeLine)
    (k : ∀ h', (∀ b o, s.heap.get? b = some o → h'.get? b = some o) → R vs { s with heap := h' }) : wpAny (model prog w) A (collect (.ref l)) R E s := by
  obtain ⟨o, ho, hc, n, hd⟩ := id hl
  unfold collect
  refine wpAny_bind (wpAny_runValue (codeAny_builtin entry_proto_collect' ?_))
  refine wpAny_bind (wpAny_newList (wpAny_pure ⟨Code.quiet_builtin _ (by decide +kernel), codeAny_builtin entry_list_iadd' ?_⟩))
  have hN : (s.heap.push (seqObj "list" #[] 0)).get? s.heap.objs.size = some (seqObj "list" #[] 0) := Heap.get?_push_size _ rfl
  have ho' := Heap.get?_push_of_some (seqObj "list" #[] 0) ho
  show wpAny _ _ (Builtin.List.listExtendWith (.ref s.heap.objs.size) (.ref l) (.ref s.heap.objs.size)) _ _ { s with heap := s.heap.push (seqObj "list" #[] 0) }
  unfold Builtin.List.listExtendWith
  refine wpAny_bind (wpAny_typeOf (T := "tuple") ⟨o, ho', hc⟩ ?_)
  have ht : (Value.type "tuple" == Value.type "tuple") = true := by rfl
  rw [if_pos (by rw [ht]; simp)]
  refine wpAny_bind (listItems_at ho' hd ?_)
  refine wpAny_bind (listItems_at (xs := #[]) (n := 0) hN rfl ?_)
  rw [if_neg (by simp)]
  refine wpAny_bind (listUpdate_at (xs := #[]) (n := 0) hN rfl ?_ (Nat.zero_le _) (by show (#[] ++ vs.toArray).size ≤ sizeLine + 1; simp only [Array.size_append, List.size_toArray, List.length_nil]; omega))
  refine wpAny_pure ?_
  have hU := get?_update_seq (g := (· ++ vs.toArray)) hN
  have keep : ∀ b ob, s.heap.get? b = some ob → ((s.heap.push (seqObj "list" #[] 0)).update s.heap.objs.size (Obj.mapSeq (· ++ vs.toArray))).get? b = some ob := fun b ob q => by
    rw [Heap.get?_update_ne _ _ _ _ (Nat.ne_of_lt (Heap.lt_size q))]
    exact Heap.get?_push_of_some _ q
  show wpAny (model prog w) A (load s.heap.objs.size >>= _) R E _
  refine wpAny_bind (wpAny_load hU ?_)
  show wpAny _ _ (pure ((#[] : Array Value) ++ vs.toArray).toList) R E _
  have ev : ((#[] : Array Value) ++ vs.toArray).toList = vs := by simp
  rw [ev]
  exact wpAny_pure (k _ keep)
end
def rSortedTI (K : PySem.W.Frag) : List V → Hp → VK → Prop := fun vs H Q => ∃ (a : Addr) (ns : List Int), vs = [V.ref a] ∧ SqT K H a (ns.map V.int) ∧
  ∀ (ms : List Int) (p : Addr), ms.Perm ns → ms.Pairwise (· ≤ ·) → H p = none → Q (.ref p) (upd H p (.lst (ms.map V.int)))
theorem cr_sortedTI {X : Cx} : CallR X (.builtin "sorted") (rSortedTI X.K) := by
  intro pins s σ H vs us Q I r h
  obtain ⟨a, ns, rfl, hs, q⟩ := h
  obtain ⟨its, rv, hT, hz⟩ := I.tuple hs
  rw [Vals.ref1 r]
  have hi := rv.ints
  have hz' : its.length ≤ sizeLine := by rw [← rv.length]; exact hz
  refine Calls.call_function_entry PyProof.Rows.kind_sorted PyProof.Rows.plain_sorted PyProof.Rows.entry_sorted (PyProof.Rows.args_sorted1 _) ?_
  unfold Builtin.«sorted»
  refine wpAny_bind (m := checkCount "sorted" 1 1 _) (wpAny_pure ?_)
  refine wpAny_bind (collect_tupI hT hz' fun h' kp => ?_)
  have I1 : Inv X pins σ H { s with heap := h' } := I.kept (t' := s.toks) kp
  refine wpAny_bind (wpAny_newList ?_ hz')
  have hoL : (h'.push (seqObj "list" its.toArray 0)).get? h'.objs.size = some (seqObj "list" its.toArray 0) := Heap.get?_push_size _ rfl
  show wpAny _ _ _ _ _ { s with heap := h'.push (seqObj "list" its.toArray 0) }
  refine wpAny_bind (wpAny_holding (wpAny_call_entry PyProof.Rows.slot_list_sort ⟨_, hoL, rfl⟩ PyProof.Rows.entry_list_sort
    (SrtO.list_sort_ord (s := { s with heap := h'.push (seqObj "list" its.toArray 0) }) SrtO.swo_int hoL hz' (fun h2 => SrtO.ints_sortable hi h2) fun out h1 h2 => ⟨_, rfl, ?_⟩) (PyProof.Rows.args_list_sort _)))
  obtain ⟨k1, k2, k3⟩ := SrtO.ints_out hi h1 h2
  obtain ⟨ep, he'⟩ := PyProof.Rows.sortedHeap_at (vs := its) (out := out.toArray) hoL
  have hlen : ((out.map SrtO.iv).map V.int).length ≤ sizeLine := by
    rw [List.length_map, k2.length_eq]
    rw [List.length_map] at hz
    exact hz
  refine wpAny_pure ⟨_, rfl, .ref h'.objs.size, upd H h'.objs.size (.lst ((out.map SrtO.iv).map V.int)), I1.laid (t' := s.toks) (fun b u e => ?_) (Nat.le_refl _) (show ObjOk X.prog X.w _ _ _ (.lst ((out.map SrtO.iv).map V.int)) from ⟨hlen, out, ep, vals_of_ints k1, he'⟩), rfl, q _ _ k2 k3 (I1.hok.fresh (Nat.le_refl _))⟩
  have hb : b < h'.objs.size := Heap.lt_size e
  rw [PyProof.Rows.sortedHeap_old (Nat.ne_of_lt hb) (by rw [size_push']; exact Nat.lt_succ_of_lt hb)]
  exact Heap.get?_push_of_some _ e
end Jf
set_option Elab.async false
set_option linter.all false
set_option maxRecDepth 100000
set_option maxHeartbeats 4000000
namespace Jf
open PySem PySem.Spec PyProof.Rows L2 Evl
/-! ### the text -/
def topS (i : Nat) : Stmt := PySem.Challenge.pw_onenumber_k54_best_orders.main.body.getD i (.Pass ⟨0, 0, 0, 0⟩)
abbrev s_is_whole : Stmt := topS 8
abbrev n_is_whole : List Str := ["value"]
abbrev s_is_number_below : Stmt := topS 9
abbrev n_is_number_below : List Str := ["value", "count"]
abbrev s_is_fraction : Stmt := topS 10
abbrev n_is_fraction : List Str := ["value", "top", "bottom"]
abbrev s_is_from_zero : Stmt := topS 11
abbrev n_is_from_zero : List Str := ["value"]
abbrev s_lowest : Stmt := topS 12
abbrev n_lowest : List Str := ["top", "bottom", "common"]
abbrev s_add : Stmt := topS 13
abbrev n_add : List Str := ["one", "other"]
abbrev s_subtract : Stmt := topS 14
abbrev n_subtract : List Str := ["one", "other"]
abbrev s_multiply : Stmt := topS 15
abbrev n_multiply : List Str := ["one", "other"]
abbrev s_is_task : Stmt := topS 18
abbrev n_is_task : List Str := ["value", "number", "parent", "pay", "factor"]
abbrev s_is_forest : Stmt := topS 19
abbrev n_is_forest : List Str := ["value", "number", "entry"]
abbrev s_require_forest : Stmt := topS 20
abbrev n_require_forest : List Str := ["value"]
abbrev s_is_sequence : Stmt := topS 21
abbrev n_is_sequence : List Str := ["parents", "value", "told", "number"]
abbrev s_parents_of : Stmt := topS 22
abbrev n_parents_of : List Str := ["forest", "parent", "_"]
abbrev s_run_of : Stmt := topS 23
abbrev n_run_of : List Str := ["forest", "tasks", "paid", "weight", "number"]
abbrev s_has_bit : Stmt := topS 24
abbrev n_has_bit : List Str := ["bits", "number"]
abbrev s_open_tasks : Stmt := topS 25
abbrev n_open_tasks : List Str := ["forest", "done", "number", "parent", "_"]
abbrev s_best_by_sets : Stmt := topS 26
abbrev n_best_by_sets : List Str := ["forest", "every", "found", "done", "best", "number", "_", "pay", "factor", "paid"]
abbrev s_best_run : Stmt := topS 27
abbrev n_best_run : List Str := ["forest", "found", "order", "done", "number"]
abbrev s_is_order : Stmt := topS 28
abbrev n_is_order : List Str := ["forest", "value"]
abbrev s_order_worth : Stmt := topS 29
abbrev n_order_worth : List Str := ["forest", "order"]
abbrev s_best_worth : Stmt := topS 30
abbrev n_best_worth : List Str := ["forest"]
abbrev s_best_order : Stmt := topS 31
abbrev n_best_order : List Str := ["forest"]
abbrev s__law_pen : Stmt := topS 33
abbrev n__law_pen : List Str := ["_law_script"]
abbrev s__law_next : Stmt := topS 34
abbrev n__law_next : List Str := ["_law_pen_here", "_law_index", "_law_cell_here", "_law_some", "_law_more", "_law_high"]
abbrev s__law_draw : Stmt := topS 35
abbrev n__law_draw : List Str := ["_law_pen_here", "_law_under", "_law_digit"]
abbrev s__law_low : Stmt := topS 36
abbrev n__law_low : List Str := ["_law_top", "_law_bottom", "_law_one", "_law_other"]
abbrev s__law_add : Stmt := topS 37
abbrev n__law_add : List Str := ["_law_one", "_law_other"]
abbrev s__law_mul : Stmt := topS 38
abbrev n__law_mul : List Str := ["_law_one", "_law_other"]
abbrev s__law_less : Stmt := topS 39
abbrev n__law_less : List Str := ["_law_one", "_law_other"]
abbrev s__law_most : Stmt := topS 40
abbrev n__law_most : List Str := ["_law_some", "_law_found", "_law_one"]
abbrev s__law_pay : Stmt := topS 41
abbrev n__law_pay : List Str := ["_law_pen_here"]
abbrev s__law_factor : Stmt := topS 42
abbrev n__law_factor : List Str := ["_law_pen_here"]
abbrev s__law_forest : Stmt := topS 43
abbrev n__law_forest : List Str := ["_law_pen_here", "_law_most_here", "_law_found", "_law_number", "_law_road", "_law_parent"]
abbrev s__law_orders : Stmt := topS 44
abbrev n__law_orders : List Str := ["_law_forest_here", "_law_found", "_law_lap", "_law_longer", "_law_order", "_law_number", "_law_parent"]
abbrev s__law_run : Stmt := topS 45
abbrev n__law_run : List Str := ["_law_forest_here", "_law_order", "_law_paid", "_law_weight", "_law_number"]
abbrev s__law_by_sets : Stmt := topS 46
abbrev n__law_by_sets : List Str := ["_law_forest_here", "_law_found", "_law_lap", "_law_later", "_law_done", "_law_paid", "_law_weight", "_law_number", "_law_parent", "_law_pay_here", "_law_factor_here", "_law_key", "_law_more"]
abbrev s_law : Stmt := topS 47
abbrev n_law : List Str := ["_law_script", "_law_pen_here", "_law_half", "_law_lone_six", "_law_great", "_law_lap", "_law_forest_here", "_law_kept", "_law_orders_here", "_law_most_here", "_law_again", "_law_found", "_law_lone", "_law_order", "_law_k"]
theorem sc_is_whole : FnScope ["value"] ["value"] (defScope s_is_whole) := ⟨rfl, rfl, rfl, by decide +kernel, rfl, by decide +kernel, by decide +kernel⟩
theorem sc_is_number_below : FnScope ["value", "count"] ["value", "count"] (defScope s_is_number_below) := ⟨rfl, rfl, rfl, by decide +kernel, rfl, by decide +kernel, by decide +kernel⟩
theorem sc_is_fraction : FnScope ["value", "top", "bottom"] ["value"] (defScope s_is_fraction) := ⟨rfl, rfl, rfl, by decide +kernel, rfl, by decide +kernel, by decide +kernel⟩
theorem sc_is_from_zero : FnScope ["value"] ["value"] (defScope s_is_from_zero) := ⟨rfl, rfl, rfl, by decide +kernel, rfl, by decide +kernel, by decide +kernel⟩
theorem sc_lowest : FnScope ["top", "bottom", "common"] ["top", "bottom"] (defScope s_lowest) := ⟨rfl, rfl, rfl, by decide +kernel, rfl, by decide +kernel, by decide +kernel⟩
theorem sc_add : FnScope ["one", "other"] ["one", "other"] (defScope s_add) := ⟨rfl, rfl, rfl, by decide +kernel, rfl, by decide +kernel, by decide +kernel⟩
theorem sc_subtract : FnScope ["one", "other"] ["one", "other"] (defScope s_subtract) := ⟨rfl, rfl, rfl, by decide +kernel, rfl, by decide +kernel, by decide +kernel⟩
theorem sc_multiply : FnScope ["one", "other"] ["one", "other"] (defScope s_multiply) := ⟨rfl, rfl, rfl, by decide +kernel, rfl, by decide +kernel, by decide +kernel⟩
theorem sc_is_task : FnScope ["value", "number", "parent", "pay", "factor"] ["value", "number"] (defScope s_is_task) := ⟨rfl, rfl, rfl, by decide +kernel, rfl, by decide +kernel, by decide +kernel⟩
theorem sc_is_forest : FnScope ["value", "number", "entry"] ["value"] (defScope s_is_forest) := ⟨rfl, rfl, rfl, by decide +kernel, rfl, by decide +kernel, by decide +kernel⟩
theorem sc_require_forest : FnScope ["value"] ["value"] (defScope s_require_forest) := ⟨rfl, rfl, rfl, by decide +kernel, rfl, by decide +kernel, by decide +kernel⟩
theorem sc_is_sequence : FnScope ["parents", "value", "told", "number"] ["parents", "value"] (defScope s_is_sequence) := ⟨rfl, rfl, rfl, by decide +kernel, rfl, by decide +kernel, by decide +kernel⟩
theorem sc_parents_of : FnScope ["forest", "parent", "_"] ["forest"] (defScope s_parents_of) := ⟨rfl, rfl, rfl, by decide +kernel, rfl, by decide +kernel, by decide +kernel⟩
theorem sc_run_of : FnScope ["forest", "tasks", "paid", "weight", "number"] ["forest", "tasks"] (defScope s_run_of) := ⟨rfl, rfl, rfl, by decide +kernel, rfl, by decide +kernel, by decide +kernel⟩
theorem sc_has_bit : FnScope ["bits", "number"] ["bits", "number"] (defScope s_has_bit) := ⟨rfl, rfl, rfl, by decide +kernel, rfl, by decide +kernel, by decide +kernel⟩
theorem sc_open_tasks : FnScope ["forest", "done", "number", "parent", "_"] ["forest", "done"] (defScope s_open_tasks) := ⟨rfl, rfl, rfl, by decide +kernel, rfl, by decide +kernel, by decide +kernel⟩
theorem sc_best_by_sets : FnScope ["forest", "every", "found", "done", "best", "number", "_", "pay", "factor", "paid"] ["forest"] (defScope s_best_by_sets) := ⟨rfl, rfl, rfl, by decide +kernel, rfl, by decide +kernel, by decide +kernel⟩
theorem sc_best_run : FnScope ["forest", "found", "order", "done", "number"] ["forest"] (defScope s_best_run) := ⟨rfl, rfl, rfl, by decide +kernel, rfl, by decide +kernel, by decide +kernel⟩
theorem sc_is_order : FnScope ["forest", "value"] ["forest", "value"] (defScope s_is_order) := ⟨rfl, rfl, rfl, by decide +kernel, rfl, by decide +kernel, by decide +kernel⟩
theorem sc_order_worth : FnScope ["forest", "order"] ["forest", "order"] (defScope s_order_worth) := ⟨rfl, rfl, rfl, by decide +kernel, rfl, by decide +kernel, by decide +kernel⟩
theorem sc_best_worth : FnScope ["forest"] ["forest"] (defScope s_best_worth) := ⟨rfl, rfl, rfl, by decide +kernel, rfl, by decide +kernel, by decide +kernel⟩
theorem sc_best_order : FnScope ["forest"] ["forest"] (defScope s_best_order) := ⟨rfl, rfl, rfl, by decide +kernel, rfl, by decide +kernel, by decide +kernel⟩
theorem sc__law_pen : FnScope ["_law_script"] ["_law_script"] (defScope s__law_pen) := ⟨rfl, rfl, rfl, by decide +kernel, rfl, by decide +kernel, by decide +kernel⟩
theorem sc__law_next : FnScope ["_law_pen_here", "_law_index", "_law_cell_here", "_law_some", "_law_more", "_law_high"] ["_law_pen_here"] (defScope s__law_next) := ⟨rfl, rfl, rfl, by decide +kernel, rfl, by decide +kernel, by decide +kernel⟩
theorem sc__law_draw : FnScope ["_law_pen_here", "_law_under", "_law_digit"] ["_law_pen_here", "_law_under"] (defScope s__law_draw) := ⟨rfl, rfl, rfl, by decide +kernel, rfl, by decide +kernel, by decide +kernel⟩
theorem sc__law_low : FnScope ["_law_top", "_law_bottom", "_law_one", "_law_other"] ["_law_top", "_law_bottom"] (defScope s__law_low) := ⟨rfl, rfl, rfl, by decide +kernel, rfl, by decide +kernel, by decide +kernel⟩
theorem sc__law_add : FnScope ["_law_one", "_law_other"] ["_law_one", "_law_other"] (defScope s__law_add) := ⟨rfl, rfl, rfl, by decide +kernel, rfl, by decide +kernel, by decide +kernel⟩
theorem sc__law_mul : FnScope ["_law_one", "_law_other"] ["_law_one", "_law_other"] (defScope s__law_mul) := ⟨rfl, rfl, rfl, by decide +kernel, rfl, by decide +kernel, by decide +kernel⟩
theorem sc__law_less : FnScope ["_law_one", "_law_other"] ["_law_one", "_law_other"] (defScope s__law_less) := ⟨rfl, rfl, rfl, by decide +kernel, rfl, by decide +kernel, by decide +kernel⟩
theorem sc__law_most : FnScope ["_law_some", "_law_found", "_law_one"] ["_law_some"] (defScope s__law_most) := ⟨rfl, rfl, rfl, by decide +kernel, rfl, by decide +kernel, by decide +kernel⟩
theorem sc__law_pay : FnScope ["_law_pen_here"] ["_law_pen_here"] (defScope s__law_pay) := ⟨rfl, rfl, rfl, by decide +kernel, rfl, by decide +kernel, by decide +kernel⟩
theorem sc__law_factor : FnScope ["_law_pen_here"] ["_law_pen_here"] (defScope s__law_factor) := ⟨rfl, rfl, rfl, by decide +kernel, rfl, by decide +kernel, by decide +kernel⟩
theorem sc__law_forest : FnScope ["_law_pen_here", "_law_most_here", "_law_found", "_law_number", "_law_road", "_law_parent"] ["_law_pen_here", "_law_most_here"] (defScope s__law_forest) := ⟨rfl, rfl, rfl, by decide +kernel, rfl, by decide +kernel, by decide +kernel⟩
theorem sc__law_orders : FnScope ["_law_forest_here", "_law_found", "_law_lap", "_law_longer", "_law_order", "_law_number", "_law_parent"] ["_law_forest_here"] (defScope s__law_orders) := ⟨rfl, rfl, rfl, by decide +kernel, rfl, by decide +kernel, by decide +kernel⟩
theorem sc__law_run : FnScope ["_law_forest_here", "_law_order", "_law_paid", "_law_weight", "_law_number"] ["_law_forest_here", "_law_order"] (defScope s__law_run) := ⟨rfl, rfl, rfl, by decide +kernel, rfl, by decide +kernel, by decide +kernel⟩
theorem sc__law_by_sets : FnScope ["_law_forest_here", "_law_found", "_law_lap", "_law_later", "_law_done", "_law_paid", "_law_weight", "_law_number", "_law_parent", "_law_pay_here", "_law_factor_here", "_law_key", "_law_more"] ["_law_forest_here"] (defScope s__law_by_sets) := ⟨rfl, rfl, rfl, by decide +kernel, rfl, by decide +kernel, by decide +kernel⟩
theorem sc_law : FnScope ["_law_script", "_law_pen_here", "_law_half", "_law_lone_six", "_law_great", "_law_lap", "_law_forest_here", "_law_kept", "_law_orders_here", "_law_most_here", "_law_again", "_law_found", "_law_lone", "_law_order", "_law_k"] ["_law_script"] (defScope s_law) := ⟨rfl, rfl, rfl, by decide +kernel, rfl, by decide +kernel, by decide +kernel⟩
/-- what the top has written -/
structure Txt (K : PySem.W.Frag) (mg : Str → Option Value) where
  d_is_whole : FT K mg "is_whole" s_is_whole ["value"]
  d_is_number_below : FT K mg "is_number_below" s_is_number_below ["value", "count"]
  d_is_fraction : FT K mg "is_fraction" s_is_fraction ["value"]
  d_is_from_zero : FT K mg "is_from_zero" s_is_from_zero ["value"]
  d_lowest : FT K mg "lowest" s_lowest ["top", "bottom"]
  d_add : FT K mg "add" s_add ["one", "other"]
  d_subtract : FT K mg "subtract" s_subtract ["one", "other"]
  d_multiply : FT K mg "multiply" s_multiply ["one", "other"]
  d_is_task : FT K mg "is_task" s_is_task ["value", "number"]
  d_is_forest : FT K mg "is_forest" s_is_forest ["value"]
  d_require_forest : FT K mg "require_forest" s_require_forest ["value"]
  d_is_sequence : FT K mg "is_sequence" s_is_sequence ["parents", "value"]
  d_parents_of : FT K mg "parents_of" s_parents_of ["forest"]
  d_run_of : FT K mg "run_of" s_run_of ["forest", "tasks"]
  d_has_bit : FT K mg "has_bit" s_has_bit ["bits", "number"]
  d_open_tasks : FT K mg "open_tasks" s_open_tasks ["forest", "done"]
  d_best_by_sets : FT K mg "best_by_sets" s_best_by_sets ["forest"]
  d_best_run : FT K mg "best_run" s_best_run ["forest"]
  d_is_order : FT K mg "is_order" s_is_order ["forest", "value"]
  d_order_worth : FT K mg "order_worth" s_order_worth ["forest", "order"]
  d_best_worth : FT K mg "best_worth" s_best_worth ["forest"]
  d_best_order : FT K mg "best_order" s_best_order ["forest"]
  d__law_pen : FT K mg "_law_pen" s__law_pen ["_law_script"]
  d__law_next : FT K mg "_law_next" s__law_next ["_law_pen_here"]
  d__law_draw : FT K mg "_law_draw" s__law_draw ["_law_pen_here", "_law_under"]
  d__law_low : FT K mg "_law_low" s__law_low ["_law_top", "_law_bottom"]
  d__law_add : FT K mg "_law_add" s__law_add ["_law_one", "_law_other"]
  d__law_mul : FT K mg "_law_mul" s__law_mul ["_law_one", "_law_other"]
  d__law_less : FT K mg "_law_less" s__law_less ["_law_one", "_law_other"]
  d__law_most : FT K mg "_law_most" s__law_most ["_law_some"]
  d__law_pay : FT K mg "_law_pay" s__law_pay ["_law_pen_here"]
  d__law_factor : FT K mg "_law_factor" s__law_factor ["_law_pen_here"]
  d__law_forest : FT K mg "_law_forest" s__law_forest ["_law_pen_here", "_law_most_here"]
  d__law_orders : FT K mg "_law_orders" s__law_orders ["_law_forest_here"]
  d__law_run : FT K mg "_law_run" s__law_run ["_law_forest_here", "_law_order"]
  d__law_by_sets : FT K mg "_law_by_sets" s__law_by_sets ["_law_forest_here"]
  d_law : FT K mg "law" s_law ["_law_script"]
  n_abs : mg "abs" = none
  n_all : mg "all" = none
  n_bool : mg "bool" = none
  n_enumerate : mg "enumerate" = none
  n_int : mg "int" = none
  n_isinstance : mg "isinstance" = none
  n_len : mg "len" = none
  n_list : mg "list" = none
  n_range : mg "range" = none
  n_repr : mg "repr" = none
  n_reversed : mg "reversed" = none
  n_sorted : mg "sorted" = none
  n_tuple : mg "tuple" = none
  n_gcd : mg "gcd" = some (.builtin "math.gcd")
  a_ZERO : Addr
  c_ZERO : mg "ZERO" = some (.ref a_ZERO)
  k_ZERO : ∃ (o : Obj) (its : Array Value) (n : Nat), K.lookup a_ZERO = some o ∧ o.cls = .type "tuple" ∧ o.data = .seq its n ∧ its.size ≤ sizeLine ∧ Vals [.int 0, .int 1] its.toList
  t_MOST_TASKS : Tok
  c_MOST_TASKS : mg "MOST_TASKS" = some (.int 8 t_MOST_TASKS)
  c_is_forest : Addr
  P_is_forest : Addr
  h_is_forest : d_is_forest.fd.code = .ref c_is_forest
  a_ONE : Addr
  c_ONE : mg "ONE" = some (.ref a_ONE)
  k_ONE : ∃ (o : Obj) (its : Array Value) (n : Nat), K.lookup a_ONE = some o ∧ o.cls = .type "tuple" ∧ o.data = .seq its n ∧ its.size ≤ sizeLine ∧ Vals [.int 1, .int 1] its.toList
/-! ### the law's own draws -/
/-- all but what stands at p is as it was -/
def ExB (p : Addr) (H H' : Hp) : Prop := ∀ b o, b ≠ p → H b = some o → H' b = some o
theorem ExB.refl (p : Addr) (H : Hp) : ExB p H H := fun _ _ _ h => h
theorem ExB.trans {p : Addr} {H H1 H2 : Hp} (a : ExB p H H1) (b : ExB p H1 H2) : ExB p H H2 := fun c o n h => b c o n (a c o n h)
theorem Ex.b {p : Addr} {H H1 : Hp} (a : Ex H H1) : ExB p H H1 := fun c o _ h => a c o h
theorem ExB.upd {p : Addr} {H H1 : Hp} {o : HO} (a : ExB p H H1) : ExB p H (upd H1 p o) := fun c o n h => by
  rw [upd_ne n]
  exact a c o n h
/-- the pen at p: its cells, its place, its rest -/
def Pen (H : Hp) (p a : Addr) (N : Nat) : Prop := ∃ (cs : List Int) (at_ vl : Int), H p = some (.lst [.ref a, .int at_, .int vl]) ∧ H a = some (.lst (cs.map V.int)) ∧ a ≠ p ∧ 0 ≤ at_ ∧ at_ ≤ N ∧ 0 ≤ vl ∧ cs.length ≤ 60
theorem Pen.ex {H H' : Hp} {p a : Addr} {N : Nat} (e : Ex H H') (h : Pen H p a N) : Pen H' p a N := by
  obtain ⟨cs, t, v, h1, h2, r⟩ := h
  exact ⟨cs, t, v, e _ _ h1, e _ _ h2, r⟩
theorem Pen.mono {H : Hp} {p a : Addr} {N M : Nat} (e : N ≤ M) (h : Pen H p a N) : Pen H p a M := by
  obtain ⟨cs, t, v, h1, h2, h3, h4, h5, r⟩ := h
  exact ⟨cs, t, v, h1, h2, h3, h4, by omega, r⟩
theorem Pen.hasP {H : Hp} {p a : Addr} {N : Nat} (h : Pen H p a N) : ∃ xs, H p = some (.lst xs) := by
  obtain ⟨cs, t, v, h1, _⟩ := h
  exact ⟨_, h1⟩
theorem Pen.hasC {H : Hp} {p a : Addr} {N : Nat} (h : Pen H p a N) : ∃ xs, H a = some (.lst xs) := by
  obtain ⟨cs, t, v, _, h1, _⟩ := h
  exact ⟨_, h1⟩
/-- a new or another object's store leaves it -/
theorem Pen.upd {H : Hp} {p a q : Addr} {N : Nat} {o : HO} (h : Pen H p a N) (h1 : q ≠ p) (h2 : q ≠ a) : Pen (upd H q o) p a N := by
  obtain ⟨cs, t, v, e1, e2, r⟩ := h
  exact ⟨cs, t, v, by rw [upd_ne h1.symm]; exact e1, by rw [upd_ne h2.symm]; exact e2, r⟩
/-- a tuple stays where a list changes -/
theorem tup_lst {K : PySem.W.Frag} {H H' : Hp} {p c : Addr} {xs ys : List V} (hp : H p = some (.lst xs)) (e : ExB p H H') (h : SqT K H c ys) : SqT K H' c ys := by
  rcases h with (h | ⟨o, h⟩) | h
  · exact .inl (.inl (e c _ (by rintro rfl; rw [hp] at h; cases h) h))
  · exact .inl (.inr ⟨o, e c _ (by rintro rfl; rw [hp] at h; cases h) h⟩)
  · exact .inr h
theorem Fr.lst {K : PySem.W.Frag} {H H' : Hp} {p : Addr} {xs : List V} {b : Nat} {q : Rat} {z : V} (hp : H p = some (.lst xs)) (e : ExB p H H') (h : Fr K b q z H) : Fr K b q z H' := by
  obtain ⟨c, rfl, h, x⟩ := h
  exact ⟨c, rfl, tup_lst hp e h, x⟩
/-- a way through a block, joined behind its first statement -/
theorem s_join {t u : TS} {D : Ends} {σ : L2.St} {H : Hp} (R : L2.St → Hp → Prop) (h1 : ∀ N : L2.St → Hp → Prop, (∀ σ H, R σ H → N σ H) → t { D with nx := N } σ H) (h2 : ∀ σ H, R σ H → u D σ H) : tSeq t u D σ H := h1 (u D) h2
theorem n_seq {t u : TS} {D : Ends} {σ : L2.St} {H : Hp} (h : t { D with nx := u D } σ H) : tSeq t u D σ H := h
theorem n_c {i : Nat} {v : V} {D : Ends} {σ : L2.St} {H : Hp} (h : D.nx (σ.set i (some v)) H) : tAsg (tC v) (gName i) D σ H := h
theorem atI_map {ms : List Int} {i : Int} (h0 : 0 ≤ i) (h : i < ms.length) : ∃ x, atI (ms.map V.int) i = some (.int x) := by
  obtain ⟨k, rfl⟩ : ∃ k : Nat, i = k := ⟨i.toNat, by omega⟩
  have hk : k < ms.length := by omega
  exact ⟨ms[k], atI_nat (by rw [List.getElem?_map, List.getElem?_eq_getElem hk]; rfl)⟩
theorem b64 {i : Int} (h0 : 0 ≤ i) (h : i < 18446744073709551616) : i.natAbs < 2 ^ 64 := by
  show i.natAbs < 18446744073709551616
  omega
theorem cut_map (ms : List Int) (lo hi : Option Int) : cutV (ms.map V.int) lo hi = ((ms.drop (HT.sIx ms.length 0 lo)).take (HT.sIx ms.length ms.length hi - HT.sIx ms.length 0 lo)).map V.int := by
  unfold cutV
  rw [List.length_map, ← List.map_drop, ← List.map_take]
theorem atI_at {xs : List V} {i : Int} (h0 : 0 ≤ i) (h : i < xs.length) : ∃ x, atI xs i = some x ∧ x ∈ xs ∧ xs[i.toNat]? = some x := by
  have hk : i.toNat < xs.length := by omega
  have e := List.getElem?_eq_getElem hk
  refine ⟨xs[i.toNat], ?_, List.getElem_mem hk, e⟩
  have := atI_nat e
  rwa [show ((i.toNat : Nat) : Int) = i by omega] at this
theorem n_name {i : Nat} {v : V} {σ : L2.St} {H : Hp} {N : L2.St → Hp → Prop} (h : N (σ.set i (some v)) H) : gName i v σ H N := h
theorem n_next {D : Ends} {σ : L2.St} {H : Hp} (h : D.nx σ H) : tNext D σ H := h
theorem dp_ints {K : PySem.W.Frag} {H : Hp} : ∀ cs : List Int, DpAll K H (cs.map V.int) (cs.map PyData.int)
  | [] => .nil
  | _ :: cs => .cons (.int _) (dp_ints cs)
theorem sh_ints (cs : List Int) : SeqAt.shaped (.list (cs.map PyData.int)) = true := by
  have h1 : ∀ cs : List Int, PyData.canLayAll0 (cs.map PyData.int) = true := fun cs => by
    induction cs with
    | nil => rfl
    | cons c cs ih => simp [PyData.canLayAll0, PyData.canLay0, ih]
  have h2 : ∀ cs : List Int, PyData.depthAll (cs.map PyData.int) = 0 := fun cs => by
    induction cs with
    | nil => rfl
    | cons c cs ih => simp [PyData.depthAll, PyData.depth, ih]
  unfold SeqAt.shaped
  rw [Bool.and_eq_true]
  refine ⟨by simpa [PyData.canLay0] using h1 cs, decide_eq_true ?_⟩
  show PyData.depthAll _ + 1 ≤ 64
  rw [h2]
  decide
section
variable {P : Program} {w : World} {K : PySem.W.Frag} {mg : Str → Option Value} {base : Heap}
def spPen (K : PySem.W.Frag) : Sp := fun vs H Q _ => ∃ (a : Addr) (ns : List Int), vs = [.ref a] ∧ SqL K H a (ns.map V.int) ∧ ns.length ≤ 63 ∧ ∀ p c H', Ex H H' → Pen H' p c 0 → H p = none → Q (.ref p) H'
theorem ok__law_pen (T : Txt K mg) : FnOk P w K mg base CX0 1 T.d__law_pen.a T.d__law_pen.fd ["_law_script"] (spPen K) := by
  refine T.d__law_pen.F.ok sc__law_pen (fun vs H Q E h => ?_) (fun cdv A outer s H vs Q E hr h => ?_)
  · obtain ⟨a, ns, rfl, _⟩ := h
    rfl
  · obtain ⟨a, ns, rfl, hS, hl, k⟩ := h
    refine ⟨_, (pss_one (ps_ret (pe_lst (pa_cons (pe_callTy call_list_of (by rfl) T.n_list (by decide +kernel) (pa_cons (pe_slice sl_list (pv 0) po_none (po_some pe_int)) pa_nil)) (pa_cons pe_int (pa_cons pe_int pa_nil)))))), ?_⟩
    have e60 : HT.sIx ns.length ns.length (some 60) = min 60 ns.length := HT.sIx_nat ns.length ns.length 60
    have cc : cutV (ns.map V.int) none (some 60) = (ns.take (min 60 ns.length)).map V.int := by
      rw [cut_map, HT.sIx_none, e60, List.drop_zero, Nat.sub_zero]
    refine ⟨.ref a, rfl, 60, rfl, a, _, rfl, hS, fun p1 f1 => ?_⟩
    rw [cc]
    have x1 := Ex.new (o := .lst ((ns.take (min 60 ns.length)).map V.int)) f1
    refine ⟨p1, _, rfl, .inl (SqL.of upd_same), fun p2 f2 => ?_⟩
    have x2 := Ex.new (o := .lst ((ns.take (min 60 ns.length)).map V.int)) f2
    refine ⟨by show 3 ≤ sizeLine; decide, fun p3 f3 => ?_⟩
    have x3 := Ex.new (o := .lst [.ref p2, .int 0, .int 0]) f3
    have n23 : p2 ≠ p3 := fun z => by
      rw [← z, upd_same] at f3
      cases f3
    exact k p3 p2 _ ((x1.trans x2).trans x3) ⟨_, 0, 0, upd_same, x3 _ _ upd_same, n23, by decide, by decide, by decide, by rw [List.length_take]; omega⟩ (fresh_back (x1.trans x2) f3)
def spNext (K : PySem.W.Frag) : Sp := fun vs H Q _ => ∃ (p a : Addr) (cs : List Int) (t v : Int), vs = [.ref p] ∧ H p = some (.lst [.ref a, .int t, .int v]) ∧ H a = some (.lst (cs.map V.int)) ∧ a ≠ p ∧ 0 ≤ t ∧ t ≤ 99990 ∧ cs.length ≤ 60 ∧
  ∀ (r : Int) (H' : Hp), 0 ≤ r → ExB p H H' → H' p = some (.lst [.ref a, .int (t + 1), .int v]) → Q (.int r) H'
theorem ok__law_next (T : Txt K mg) : FnOk P w K mg base CX0 1 T.d__law_next.a T.d__law_next.fd ["_law_pen_here"] (spNext K) := by
  refine T.d__law_next.F.ok sc__law_next (fun vs H Q E h => ?_) (fun cdv A outer s H vs Q E hr h => ?_)
  · obtain ⟨p, a, cs, t, v, rfl, _⟩ := h
    rfl
  · obtain ⟨p, a, cs, t, v, rfl, hp, ha, hne, t0, t1, hl, k⟩ := h
    refine ⟨_, (pss_cons (ps_set (i := 1) sc__law_next.nd rfl (Or.inl rfl) (pe_ix ix_list (pv 0) pe_int (fun _ _ => rfl)))
      (pss_cons (ps_asg (pe_op op_add (pv 1) pe_int) (pg_sub (pv 0) pe_int set_list))
      (pss_cons (ps_set (i := 2) sc__law_next.nd rfl (Or.inl rfl) (pe_op op_add (pe_op op_mulW (pv 1) pe_int) pe_int))
      (pss_cons (ps_if (pt_cmpR (op_neD hr.units) (pe_ix ix_list (pv 0) pe_int (fun _ _ => rfl)) (pe_lst pa_nil) (nomark _)) (pss_one (ps_set (i := 2) sc__law_next.nd rfl (Or.inl rfl) (pe_ix ix_list (pe_ix ix_list (pv 0) pe_int (fun _ _ => rfl)) (pe_op op_mod (pe_callTy call_int1 (by rfl) T.n_int (by decide +kernel) (pa_cons (pv 1) pa_nil)) (pe_callB call_len_seq (by rfl) T.n_len (by decide +kernel) (pa_cons (pe_ix ix_list (pv 0) pe_int (fun _ _ => rfl)) pa_nil))) (fun _ _ => rfl)))) pss_nil)
      (pss_cons (ps_if (PW.pt (pw_and (pt_cmpR op_lt (pv 1) (pe_callB call_len_seq (by rfl) T.n_len (by decide +kernel) (pa_cons (pe_ix ix_list (pv 0) pe_int (fun _ _ => rfl)) pa_nil)) (nomark _)) (pw_and1 (pt_cmpR op_ge (pv 2) (pe_op op_pow pe_int pe_int) (nomark _))))) (pss_one (ps_ret (pv 2))) pss_nil)
      (pss_cons (ps_set (i := 3) sc__law_next.nd rfl (Or.inl rfl) (pe_op op_mod (pe_callTy call_int1 (by rfl) T.n_int (by decide +kernel) (pa_cons (pe_op op_add (pe_op op_add (pe_op op_mod (pe_callTy call_int1 (by rfl) T.n_int (by decide +kernel) (pa_cons (pv 2) pa_nil)) pe_int) (pe_op op_mulW (pv 1) pe_int)) pe_int) pa_nil)) pe_int))
      (pss_cons (ps_set (i := 4) sc__law_next.nd rfl (Or.inl rfl) (pe_op op_mod (pe_callTy call_int1 (by rfl) T.n_int (by decide +kernel) (pa_cons (pe_op op_add (pe_op op_add (pe_op op_mulW (pv 3) (pv 3)) (pe_op op_mulW (pv 1) pe_int)) pe_int) pa_nil)) pe_int))
      (pss_cons (ps_set (i := 5) sc__law_next.nd rfl (Or.inl rfl) (pe_op op_mod (pe_callTy call_int1 (by rfl) T.n_int (by decide +kernel) (pa_cons (pe_op op_add (pe_op op_add (pe_op op_mulW (pv 4) (pv 4)) (pv 3)) (pe_op op_mulW (pe_op op_mulW (pv 1) (pv 1)) pe_int)) pa_nil)) pe_int))
      (pss_one (ps_ret (pe_op op_add (pe_op op_mulW (pe_op op_add (pe_op op_mulW (pv 5) pe_int) (pv 4)) pe_int) (pv 3)))))))))))), ?_⟩
    refine n_seq ?_
    refine ⟨.ref p, rfl, p, _, 1, .int t, rfl, rfl, SqL.of hp, rfl, ?_⟩
    dsimp only
    refine n_seq ?_
    refine ⟨_, rfl, t, 1, rfl, rfl, .ref p, rfl, p, _, 1, 1, rfl, rfl, hp, rfl, ?_⟩
    dsimp only
    have eb1 : ExB p H (upd H p (.lst [.ref a, .int (t + 1), .int v])) := ExB.upd (ExB.refl p H)
    have ha1 : (upd H p (.lst [.ref a, .int (t + 1), .int v])) a = some (.lst (cs.map V.int)) := eb1 _ _ hne ha
    have hp1 : (upd H p (.lst [.ref a, .int (t + 1), .int v])) p = some (.lst [.ref a, .int (t + 1), .int v]) := upd_same
    show tSeq _ _ _ _ (upd H p (.lst [.ref a, .int (t + 1), .int v]))
    generalize upd H p (.lst [.ref a, .int (t + 1), .int v]) = H1 at eb1 ha1 hp1 ⊢
    have m1 : CMulW t 1051 := mulW (a := 64) (b := 64) (b64 t0 (by omega)) (b64 (by decide) (by decide)) (by decide)
    refine n_seq ?_
    refine ⟨_, rfl, t, 1051, rfl, rfl, m1, _, 53, rfl, rfl, ?_⟩
    dsimp only
    -- a cell of the script, if there is one
    refine s_join (fun σ G => ∃ c : Int, σ = [some (.ref p), some (.int t), some (.int c), none, none, none] ∧ Ex H1 G) (fun NX hNX => ?_) ?_
    · refine ⟨.ref p, rfl, p, _, 0, .ref a, rfl, rfl, SqL.of hp1, rfl, by show 0 ≤ sizeLine; decide, fun l fl => ?_⟩
      have x1 := Ex.new (o := .lst []) fl
      refine ⟨.list (cs.map PyData.int), .list [], .lst (SqL.of (x1 _ _ ha1)) (dp_ints cs), .lst (SqL.of upd_same) .nil, sh_ints cs, rfl, _, rfl, ?_⟩
      cases cs with
      | nil =>
        have e : PyData.eqv (.list (([] : List Int).map PyData.int)) (.list []) = true := by simp [PyData.eqv, PyData.eqvAll]
        rw [e]
        refine iteF (n_next (hNX _ _ ⟨_, rfl, x1⟩))
      | cons c0 cs =>
        have e : PyData.eqv (.list ((c0 :: cs).map PyData.int)) (.list []) = false := by simp [PyData.eqv, PyData.eqvAll]
        rw [e]
        refine iteT ?_
        have pos : (0 : Int) < ((c0 :: cs).length : Nat) := by rw [List.length_cons]; omega
        have z0 : 0 ≤ t % (((c0 :: cs).map V.int).length : Int) := Int.emod_nonneg _ (by rw [List.length_map]; omega)
        have z1 : t % (((c0 :: cs).map V.int).length : Int) < (c0 :: cs).length := by
          rw [List.length_map]
          exact Int.emod_lt_of_pos _ pos
        obtain ⟨x, hx⟩ := atI_map (ms := c0 :: cs) z0 z1
        refine ⟨.ref p, rfl, p, _, 0, .ref a, rfl, rfl, SqL.of (x1 _ _ hp1), rfl, .int t, rfl, .inl ⟨t, rfl, .ref p, rfl, p, _, 0, .ref a, rfl, rfl, SqL.of (x1 _ _ hp1), rfl, a, _, rfl, .inl (SqL.of (x1 _ _ ha1)), t, _, rfl, rfl, by rw [List.length_map]; exact pos, a, _, _, .int x, rfl, rfl, SqL.of (x1 _ _ ha1), hx, ?_⟩⟩
        exact hNX _ _ ⟨x, rfl, x1⟩
    rintro σ G ⟨c, rfl, ex⟩
    have hpG := ex _ _ hp1
    have ebG : ExB p H G := eb1.trans (Ex.b ex)
    refine s_join (fun σ G' => σ = [some (.ref p), some (.int t), some (.int c), none, none, none] ∧ G' = G) (fun NX hNX => ?_) ?_
    · refine ⟨_, rfl, .ref p, rfl, p, _, 0, .ref a, rfl, rfl, SqL.of hpG, rfl, a, _, rfl, .inl (SqL.of (ex _ _ ha1)), t, _, rfl, rfl, _, rfl, ite2 (fun c1 => ?_) (fun c1 => n_next (hNX _ _ ⟨rfl, rfl⟩))⟩
      refine ⟨_, rfl, 10, 18, rfl, rfl, ⟨by decide, by decide, by decide⟩, c, _, rfl, rfl, _, rfl, ite2 (fun c2 => ?_) (fun c2 => n_next (hNX _ _ ⟨rfl, rfl⟩))⟩
      have c2' : (10 : Int) ^ (18 : Int).toNat ≤ c := of_decide_eq_true c2
      have e2 : (10 : Int) ^ (18 : Int).toNat = 1000000000000000000 := by decide
      exact ⟨_, rfl, k c G (by omega) ebG hpG⟩
    rintro σ _ ⟨rfl, rfl⟩
    -- mixed
    have a0 : 0 ≤ c % 2147483587 := Int.emod_nonneg _ (by decide)
    have a1 : c % 2147483587 < 2147483587 := Int.emod_lt_of_pos _ (by decide)
    generalize hc : c % 2147483587 = m at a0 a1
    refine n_seq ?_
    refine ⟨.int c, rfl, .inl ⟨c, rfl, c, 2147483587, rfl, rfl, (by decide : (0 : Int) < 2147483587), _, rfl, t, 30103, rfl, rfl, mulW (a := 64) (b := 64) (b64 t0 (by omega)) (b64 (by decide) (by decide)) (by decide), _, _, rfl, rfl, _, 79, rfl, rfl, .inl ⟨_, rfl, _, 2147483587, rfl, rfl, (by decide : (0 : Int) < 2147483587), ?_⟩⟩⟩
    rw [hc]
    have s0 : 0 ≤ (m + t * 30103 + 79) % 2147483587 := Int.emod_nonneg _ (by decide)
    have s1 : (m + t * 30103 + 79) % 2147483587 < 2147483587 := Int.emod_lt_of_pos _ (by decide)
    dsimp only
    generalize (m + t * 30103 + 79) % 2147483587 = o at s0 s1 ⊢
    have oo0 : 0 ≤ o * o := Int.mul_nonneg s0 s0
    have oo1 : o * o ≤ 2147483587 * 2147483587 := Int.le_trans (Int.mul_le_mul_of_nonneg_right (by omega : o ≤ 2147483587) s0) (Int.mul_le_mul_of_nonneg_left (by omega) (by decide))
    refine n_seq ?_
    refine ⟨_, rfl, _, rfl, o, o, rfl, rfl, mulW (a := 64) (b := 64) (b64 s0 (by omega)) (b64 s0 (by omega)) (by decide), _, rfl, t, 70039, rfl, rfl, mulW (a := 64) (b := 64) (b64 t0 (by omega)) (b64 (by decide) (by decide)) (by decide), _, _, rfl, rfl, _, 61, rfl, rfl, .inl ⟨_, rfl, _, 2147483563, rfl, rfl, (by decide : (0 : Int) < 2147483563), ?_⟩⟩
    have m0 : 0 ≤ (o * o + t * 70039 + 61) % 2147483563 := Int.emod_nonneg _ (by decide)
    have m1 : (o * o + t * 70039 + 61) % 2147483563 < 2147483563 := Int.emod_lt_of_pos _ (by decide)
    dsimp only
    generalize (o * o + t * 70039 + 61) % 2147483563 = y at m0 m1 ⊢
    have tt0 : 0 ≤ t * t := Int.mul_nonneg t0 t0
    have tt1 : t * t ≤ 99990 * 99990 := Int.le_trans (Int.mul_le_mul_of_nonneg_right t1 t0) (Int.mul_le_mul_of_nonneg_left t1 (by decide))
    refine n_seq ?_
    refine ⟨_, rfl, _, rfl, y, y, rfl, rfl, mulW (a := 64) (b := 64) (b64 m0 (by omega)) (b64 m0 (by omega)) (by decide), _, rfl, _, _, rfl, rfl, _, rfl, _, rfl, t, t, rfl, rfl, mulW (a := 64) (b := 64) (b64 t0 (by omega)) (b64 t0 (by omega)) (by decide), _, 37, rfl, rfl, mulW (a := 64) (b := 64) (b64 tt0 (by omega)) (b64 (by decide) (by decide)) (by decide), _, _, rfl, rfl, .inl ⟨_, rfl, _, 2147483549, rfl, rfl, (by decide : (0 : Int) < 2147483549), ?_⟩⟩
    have h0 : 0 ≤ (y * y + o + t * t * 37) % 2147483549 := Int.emod_nonneg _ (by decide)
    have h1 : (y * y + o + t * t * 37) % 2147483549 < 2147483549 := Int.emod_lt_of_pos _ (by decide)
    dsimp only
    generalize (y * y + o + t * t * 37) % 2147483549 = z at h0 h1 ⊢
    refine ⟨_, rfl, z, 2147483587, rfl, rfl, mulW (a := 64) (b := 64) (b64 h0 (by omega)) (b64 (by decide) (by decide)) (by decide), _, rfl, _, y, rfl, rfl, _, 2147483563, rfl, rfl, mulW (a := 64) (b := 64) (b64 (by omega) (by omega)) (b64 (by decide) (by decide)) (by decide), _, rfl, _, o, rfl, rfl, ?_⟩
    exact k _ _ (by omega) ebG hpG
def spDraw (K : PySem.W.Frag) : Sp := fun vs H Q _ => ∃ (p a : Addr) (m : Int) (N : Nat), vs = [.ref p, .int m] ∧ Pen H p a N ∧ 0 < m ∧ m < 1073741824 ∧ N ≤ 99990 ∧ ∀ r H', 0 ≤ r → r < m → ExB p H H' → Pen H' p a (N + 1) → Q (.int r) H'
theorem ok__law_draw (T : Txt K mg) : FnOk P w K mg base CX0 2 T.d__law_draw.a T.d__law_draw.fd ["_law_pen_here", "_law_under"] (spDraw K) := by
  refine T.d__law_draw.F.ok sc__law_draw (fun vs H Q E h => ?_) (fun cdv A outer s H vs Q E hr h => ?_)
  · obtain ⟨p, a, m, N, rfl, _⟩ := h
    rfl
  · obtain ⟨p, a, m, N, rfl, ⟨cs, t, v, hp, ha, hne, t0, t1, v0, hlen⟩, m0, m1, hN, k⟩ := h
    refine ⟨_, (pss_cons (ps_if (pt_cmpR op_lt (pe_ix ix_list (pv 0) pe_int (fun _ _ => rfl)) (pv 1) (nomark _)) (pss_one (ps_asg (pe_call (ok__law_next T) (hr.mono (by decide)) (by rfl) T.d__law_next.g T.d__law_next.F.kp T.d__law_next.b .nil pass0 (pa_cons (pv 0) pa_nil)) (pg_sub (pv 0) pe_int set_list))) pss_nil)
      (pss_cons (ps_set (i := 2) sc__law_draw.nd rfl (Or.inl rfl) (pe_op op_mod (pe_callTy call_int1 (by rfl) T.n_int (by decide +kernel) (pa_cons (pe_ix ix_list (pv 0) pe_int (fun _ _ => rfl)) pa_nil)) (pv 1)))
      (pss_cons (ps_asg (pe_op op_fdivN (pe_ix ix_list (pv 0) pe_int (fun _ _ => rfl)) (pv 1)) (pg_sub (pv 0) pe_int set_list))
      (pss_one (ps_ret (pv 2)))))), ?_⟩
    refine s_join (fun σ H' => ∃ t' v', σ = [some (.ref p), some (.int m), none] ∧ H' p = some (.lst [.ref a, .int t', .int v']) ∧ ExB p H H' ∧ 0 ≤ t' ∧ t' ≤ N + 1 ∧ 0 ≤ v') (fun NX hNX => ?_) ?_
    · refine ⟨.ref p, rfl, p, _, 2, .int v, rfl, rfl, SqL.of hp, rfl, .int m, rfl, v, m, rfl, rfl, _, rfl, ite2 (fun c => ?_) (fun c => ?_)⟩
      · refine ⟨.ref p, rfl, p, a, cs, t, v, rfl, hp, ha, hne, t0, by omega, hlen, fun r H1 r0 eb1 hp1 => ?_⟩
        refine ⟨.ref p, rfl, p, [.ref a, .int (t + 1), .int v], 2, 2, rfl, rfl, hp1, rfl, ?_⟩
        exact hNX _ _ ⟨t + 1, r, rfl, upd_same, eb1.upd, by omega, by omega, r0⟩
      · exact n_next (hNX _ _ ⟨t, v, rfl, hp, ExB.refl p H, t0, by omega, v0⟩)
    · rintro σ H' ⟨t', v', rfl, hp', eb, a0, a1, b0⟩
      have hS : SqL K H' p [.ref a, .int t', .int v'] := SqL.of hp'
      refine ⟨.ref p, rfl, p, _, 2, .int v', rfl, rfl, hS, rfl, .inl ⟨v', rfl, .int m, rfl, v', m, rfl, rfl, m0, ?_⟩⟩
      refine ⟨.ref p, rfl, p, _, 2, .int v', rfl, rfl, hS, rfl, .int m, rfl, v', m, rfl, rfl, ⟨by omega, by omega⟩, .ref p, rfl, p, _, 2, 2, rfl, rfl, hp', rfl, ?_⟩
      refine ⟨_, rfl, k _ _ (Int.emod_nonneg _ (by omega)) (Int.emod_lt_of_pos _ m0) eb.upd ⟨cs, t', _, upd_same, ?_, hne, a0, by omega, ?_, hlen⟩⟩
      · rw [upd_ne hne]
        exact eb _ _ hne ha
      · rw [Int.fdiv_eq_ediv_of_nonneg v' (by omega)]
        exact Int.ediv_nonneg b0 (by omega)
end
/-! ### the program: onenumber.errors, onenumber.amounts, for any data -/
/-- an error of the class at C that keeps v, raised from H on -/
def Er (C : Addr) (v : V) (H : Hp) (E : XK) : Prop := ∀ dd k H', Ex H H' → H' dd = some (.xd (kd k v)) → E (.ref C) (some dd) H'
theorem Er.ex {C : Addr} {v : V} {H H1 : Hp} {E : XK} (e : Ex H H1) (h : Er C v H E) : Er C v H1 E := fun dd k H' e' q => h dd k H' (e.trans e') q
theorem rd_raise {C : Addr} {v : V} {σ : L2.St} {H : Hp} {i : Nat} {E : XK} (hv : σ[i]? = some (some v)) (k : Er C v H E) : tMkO C (spInit C) [] (tCons (tVar i) tNil) σ H E := by
  refine ⟨v, hv, by show 1 ≤ 1000; decide, fun a ha => ⟨a, v, rfl, upd_same, fun dx kn H' h1 ne e1 e2 keep => ⟨rfl, dx, _, e1, e2, ?_, ?_⟩⟩⟩
  · rw [upd_ne ne] at h1
    exact h1
  · rw [upd_ne ne] at h1
    refine k dx kn _ (fun b o hb => ?_) upd_same
    have n1 : b ≠ a := ne_of_none hb ha
    rw [upd_ne (ne_of_none hb h1), del_ne n1]
    exact keep b o n1 (by rw [upd_ne n1]; exact hb)
def ival : PyData → Int
  | .int n => n
  | _ => 0
section
variable {K : PySem.W.Frag} {p : Addr} {H H' : Hp} {v : V} {d : PyData} {σ : L2.St} {i : Nat} {b : Bool}
theorem Dq.ival (h : Dq K p H v d) (hw : isWh d = true) : v = .int (ival d) ∧ d = .int (Jf.ival d) := by
  cases h with
  | int n => exact ⟨rfl, rfl⟩
  | _ => cases hw
theorem ev_isi {T : String} (hv : σ[i]? = some (some v)) (hd : Dq K p H v d) (hk : kitB (tyName d) T = some b) : Ev (tCB (rIsi K) (tCons (tVar i) (tCons (tC (.ty T)) tNil))) σ H (.bl b) :=
  fun H1 e Q k => ⟨v, hv, v, .ty T, .type (tyName d), .type T, b, rfl, .ty _, (Dq.ex e _ _ hd).ty, kit_ty hk, k H1 (Ex.refl H1)⟩
def spIsD (K : PySem.W.Frag) (sm : PyData → Prop) (f : PyData → Bool) : Sp := fun vs H Q _ => ∃ (p : Addr) (v : V) (d : PyData), vs = [v] ∧ Dq K p H v d ∧ sm d ∧ ∀ H', Ex H H' → Q (.bl (f d)) H'
theorem ev_isD {E : XK} {sm : PyData → Prop} {f : PyData → Bool} {te : TE} (he : Ev te σ H v) (hd : Dq K p H v d) (hs : sm d) : Ev (tCall (spIsD K sm f) [] E (tCons te tNil)) σ H (.bl (f d)) :=
  fun H1 e Q k => he H1 e _ fun H2 e2 => ⟨p, v, d, rfl, Dq.ex (e.trans e2) _ _ hd, hs, fun H' e' => k H' (e2.trans e')⟩
/-- nothing asked -/
def Any (_ : PyData) : Prop := True
def spReq (K : PySem.W.Frag) (C : Addr) (f : PyData → Bool) : Sp := fun vs H Q E => ∃ (p : Addr) (v : V) (d : PyData), vs = [v] ∧ Dq K p H v d ∧ (f d = true → ∀ H', Ex H H' → Q .non H') ∧ (f d = false → Er C v H E)
/-- two fractions, or none -/
def spX (K : PySem.W.Frag) (C : Addr) (ok : Rat → Prop) (R : Rat → Rat → V → Hp → Prop) : Sp := fun vs H Q E => ∃ (p : Addr) (u v : V) (d e : PyData), vs = [u, v] ∧ Dq K p H u d ∧ Dq K p H v e ∧ Bd 100 (frQ d) ∧ Bd 100 (frQ e) ∧
  (frB d = false → Er C u H E) ∧ (frB d = true → frB e = false → Er C v H E) ∧ (frB d = true → frB e = true → ¬ ok (frQ e) → Er C v H E) ∧
  (frB d = true → frB e = true → ok (frQ e) → ∀ z H', Ex H H' → R (frQ d) (frQ e) z H' → Q z H')
end
section
variable {P : Program} {w : World} {K : PySem.W.Frag} {mg : Str → Option Value} {base : Heap}
end
section
variable {P : Program} {w : World} {K : PySem.W.Frag} {mg : Str → Option Value} {base : Heap}
theorem ok_is_whole (T : Txt K mg) : FnOk P w K mg base CX0 1 T.d_is_whole.a T.d_is_whole.fd ["value"] (spIsD K Any isWh) := by
  refine T.d_is_whole.F.ok sc_is_whole (fun vs H Q E h => ?_) (fun cdv A outer s H vs Q E hr h => ?_)
  · obtain ⟨p, v, d, rfl, _⟩ := h
    rfl
  · obtain ⟨p, v, d, rfl, hd, _, k⟩ := h
    refine ⟨_, (pss_one (ps_ret (pe_and (pe_callB call_isi (by rfl) T.n_isinstance (by decide +kernel) (pa_cons (pv 0) (pa_cons (pe_bltn (v := .ty "int") (by rfl) T.n_int (by decide +kernel) rfl) pa_nil))) (pe_one (pe_not (pe_callB call_isi (by rfl) T.n_isinstance (by decide +kernel) (pa_cons (pv 0) (pa_cons (pe_bltn (v := .ty "bool") (by rfl) T.n_bool (by decide +kernel) rfl) pa_nil)))))))), ?_⟩
    refine s_ret (ev_andV (ev_isi rfl hd (kit_int d)) fun _ => ev_notV (ev_isi rfl hd (kit_bool d))) fun H1 e => ?_
    rw [wh_eq]
    exact k H1 e
theorem ok_is_fraction (T : Txt K mg) : FnOk P w K mg base CX0 2 T.d_is_fraction.a T.d_is_fraction.fd ["value"] (spIsD K Any frB) := by
  refine T.d_is_fraction.F.ok sc_is_fraction (fun vs H Q E h => ?_) (fun cdv A outer s H vs Q E hr h => ?_)
  · obtain ⟨p, v, d, rfl, _⟩ := h
    rfl
  · obtain ⟨p, v, d, rfl, hd, _, k⟩ := h
    refine ⟨_, (pss_cons (ps_if (PW.pt (pw_or (pt_not (pt_val (pe_callB call_isi (by rfl) T.n_isinstance (by decide +kernel) (pa_cons (pv 0) (pa_cons (pe_bltn (v := .ty "tuple") (by rfl) T.n_tuple (by decide +kernel) rfl) pa_nil))))) (pw_or1 (pt_cmpR op_ne (pe_callB call_len_seq (by rfl) T.n_len (by decide +kernel) (pa_cons (pv 0) pa_nil)) pe_int (nomark _))))) (pss_one (ps_ret pe_bl)) pss_nil)
      (pss_cons (ps_asg (pv 0) (pg_tup (by rfl) (pgs_cons (pg_name (i := 1) sc_is_fraction.nd rfl (Or.inl rfl)) (pgs_cons (pg_name (i := 2) sc_is_fraction.nd rfl (Or.inl rfl)) pgs_nil))))
      (pss_cons (ps_if (PW.pt (pw_or (pt_not (pt_val (pe_call (ok_is_whole T) (hr.mono (by decide)) (by rfl) T.d_is_whole.g T.d_is_whole.F.kp T.d_is_whole.b .nil pass0 (pa_cons (pv 1) pa_nil)))) (pw_or (pt_not (pt_val (pe_call (ok_is_whole T) (hr.mono (by decide)) (by rfl) T.d_is_whole.g T.d_is_whole.F.kp T.d_is_whole.b .nil pass0 (pa_cons (pv 2) pa_nil)))) (pw_or1 (pt_cmpR op_le (pv 2) pe_int (nomark _)))))) (pss_one (ps_ret pe_bl)) pss_nil)
      (pss_one (ps_ret (pe_cmpR op_eq (pe_callBfun cr_gcd (by rfl) T.n_gcd (pa_cons (pv 1) (pa_cons (pv 2) pa_nil))) pe_int (nomark _))))))), ?_⟩
    by_cases ht : isTup d = true
    · cases hd with
      | @tup a xs ds hS hA =>
        by_cases h2 : xs.length = 2
        · have h2' := h2
          rw [hA.len] at h2'
          obtain ⟨x1, x2, rfl⟩ : ∃ x1 x2, xs = [x1, x2] := match xs, h2 with | [x1, x2], _ => ⟨x1, x2, rfl⟩
          obtain ⟨d1, d2, rfl⟩ : ∃ d1 d2, ds = [d1, d2] := match ds, h2' with | [d1, d2], _ => ⟨d1, d2, rfl⟩
          have hD : Dq K p H (.ref a) (.tuple [d1, d2]) := .tup hS hA
          obtain ⟨q1, q2⟩ : Dq K p H x1 d1 ∧ Dq K p H x2 d2 := by
            cases hA with
            | cons a b =>
              cases b with
              | cons b c => exact ⟨a, b⟩
          refine s_if (b := false) (et_is (et_or (et_not (et_B (ev_isi rfl hD (kit_tup _)))) fun _ => et_test (fun H1 e Q k => ⟨_, rfl, a, _, rfl, .inr (ex_t e hS), rfl, k H1 (Ex.refl H1)⟩)) rfl) (fun z => nomatch z) fun _ H1 e1 => ?_
          refine ⟨_, rfl, a, [x1, x2], rfl, ex_t e1 hS, rfl, _, _, rfl, _, _, rfl, rfl, ?_⟩
          have r1 := Dq.ex e1 _ _ q1
          have r2 := Dq.ex e1 _ _ q2
          have hlt : isWh d2 = true → x2 = .int (ival d2) := fun z => (r2.ival z).1
          refine s_if (b := !isWh d1 || (!isWh d2 || decide (ival d2 ≤ 0))) (et_or (et_not (et_B (ev_isD (ev_var rfl) r1 trivial))) fun _ => et_or (et_not (et_B (ev_isD (ev_var rfl) r2 trivial))) fun z => et_test (by
            have z' : isWh d2 = true := by simpa using z
            have hx := hlt z'
            subst hx
            exact ev_op (ev_var rfl) ev_c rv_I0)) (fun z H2 e2 => ?_) (fun z H2 e2 => ?_)
          · have e : frB (.tuple [d1, d2]) = false := by
              cases d1 with
              | int n =>
                cases d2 with
                | int m =>
                  have z' : decide (m ≤ 0) = true := z
                  have : ¬ 0 < m := by
                    have := of_decide_eq_true z'
                    omega
                  simp [frB, this]
                | _ => rfl
              | _ => rfl
            rw [e] at k
            exact k H2 (e1.trans e2)
          · have w1 : isWh d1 = true := by
              cases h : isWh d1 with
              | true => rfl
              | false =>
                rw [h] at z
                cases z
            have w2 : isWh d2 = true := by
              cases h : isWh d2 with
              | true => rfl
              | false =>
                rw [h, w1] at z
                cases z
            obtain ⟨g1, g2⟩ := r1.ival w1
            obtain ⟨g3, g4⟩ := r2.ival w2
            rw [w1, w2] at z
            have z' : ¬ ival d2 ≤ 0 := of_decide_eq_false (by simpa using z)
            generalize ival d1 = n at g1 g2
            generalize ival d2 = m at g3 g4 z'
            subst g1 g2 g3 g4
            refine ⟨_, rfl, _, rfl, n, m, rfl, rfl, ?_⟩
            have e : frB (.tuple [.int n, .int m]) = decide (V.int ((Nat.gcd n.natAbs m.natAbs : Nat) : Int) = V.int 1) := by
              simp only [frB]
              rw [decide_eq_true (by omega : 0 < m), Bool.true_and]
              rw [Bool.eq_iff_iff, decide_eq_true_iff, decide_eq_true_iff]
              constructor
              · intro h
                rw [h]
                rfl
              · intro h
                have := V.int.inj h
                omega
            rw [e] at k
            exact k H2 (e1.trans e2)
        · refine s_if (b := true) (et_is (et_or (et_not (et_B (ev_isi rfl (.tup hS hA) (kit_tup _)))) fun _ => et_test (fun H1 e Q k => ⟨_, rfl, a, _, rfl, .inr (ex_t e hS), rfl, k H1 (Ex.refl H1)⟩)) ?_) (fun _ H1 e1 => ?_) (fun z => nomatch z)
          · have : ¬ V.int (xs.length : Int) = V.int 2 := fun z => h2 (by
              have := V.int.inj z
              omega)
            simp [isTup, this]
          · have e : frB (.tuple ds) = false := by
              have := hA.len
              match ds, this with
              | [], _ => rfl
              | [_], _ => simp [frB]
              | [_, _], h => exact absurd h h2
              | _ :: _ :: _ :: _, _ => simp [frB]
            rw [e] at k
            exact k H1 e1
      | _ => cases ht
    · have e : frB d = false := by
        cases d <;> (first | rfl | exact absurd rfl ht)
      have ht' : isTup d = false := by simpa using ht
      refine s_if (b := true) (et_is (et_or (b := false) (et_not (et_B (ev_isi rfl hd (kit_tup d)))) fun z => ?_) ?_) (fun _ H1 e1 => ?_) (fun z => nomatch z)
      · rw [ht'] at z
        cases z
      · rw [ht']
        rfl
      · rw [e] at k
        exact k H1 e1
end
def posB (d : PyData) : Bool := frB d && decide (0 < (frQ d).num)
section
variable {K : PySem.W.Frag} {p : Addr} {H : Hp} {v : V} {d : PyData} {σ : L2.St} {i : Nat}
theorem Dq.seq {ds : List PyData} (h : Dq K p H v (.tuple ds)) : ∃ a xs, v = .ref a ∧ SqT K H a xs ∧ DqAll K p H xs ds := by
  cases h with
  | tup hS hA => exact ⟨_, _, rfl, hS, hA⟩
theorem ev_lenT {ds : List PyData} (hv : σ[i]? = some (some v)) (hd : Dq K p H v (.tuple ds)) : Ev (tCB (fun xs H_1 Q => ∃ p ys, xs = [V.ref p] ∧ (SqL K H_1 p ys ∨ SqT K H_1 p ys) ∧ Q (V.int ys.length) H_1) (tCons (tVar i) tNil)) σ H (.int (ds.length : Int)) := fun H1 e Q k => by
  obtain ⟨a, xs, rfl, hS, hA⟩ := hd.seq
  refine ⟨_, hv, a, xs, rfl, .inr (ex_t e hS), ?_⟩
  rw [hA.len]
  exact k H1 (Ex.refl H1)
theorem DqAll.get : ∀ {vs : List V} {ds : List PyData} {j : Nat} {dj : PyData}, DqAll K p H vs ds → ds[j]? = some dj → ∃ x, vs[j]? = some x ∧ Dq K p H x dj
  | _, _, j, dj, .nil, e => by simp at e
  | _, _, 0, dj, .cons h hs, e => by
    simp only [List.getElem?_cons_zero, Option.some.injEq] at e
    subst e
    exact ⟨_, rfl, h⟩
  | _, _, j + 1, dj, .cons h hs, e => by
    simp only [List.getElem?_cons_succ] at e ⊢
    exact DqAll.get hs e
/-- an item of a tuple -/
theorem ed_ix {ds : List PyData} {j : Nat} {dj : PyData} (hv : σ[i]? = some (some v)) (hd : Dq K p H v (.tuple ds)) (e : ds[j]? = some dj) : EvP (tOp (rIxT K) (tVar i) (tC (.int (j : Int)))) σ H (fun x H' => Dq K p H' x dj) := fun H1 e1 Q k => by
  obtain ⟨a, xs, rfl, hS, hA⟩ := hd.seq
  obtain ⟨x, hx, q⟩ := hA.get e
  exact ⟨_, hv, a, xs, j, x, rfl, rfl, ex_t e1 hS, atI_nat hx, k x H1 (Ex.refl _) (Dq.ex e1 _ _ q)⟩
theorem ev_isDp {E : XK} {sm : PyData → Prop} {f : PyData → Bool} {te : TE} (he : EvP te σ H fun x H' => Dq K p H' x d) (hs : sm d) : Ev (tCall (spIsD K sm f) [] E (tCons te tNil)) σ H (.bl (f d)) :=
  fun H1 e Q k => he H1 e _ fun x H2 e2 q => ⟨p, x, d, rfl, q, hs, fun H' e' => k H' (e2.trans e')⟩
end
section
variable {K : PySem.W.Frag} {p : Addr} {H : Hp} {v : V} {d : PyData} {σ : L2.St} {i : Nat} {te ta tb tc : TE} {x y w : V} {r r' : R2}
theorem ev_chain {a b : Bool} (ha : Ev ta σ H x) (hb : Ev tb σ H y) (hc : Ev tc σ H w) (h1 : ∀ H, RV r x y H (.bl a)) (h2 : ∀ H, RV r' y w H (.bl b)) : Ev (tChain r r' ta tb tc) σ H (.bl (a && b)) := fun H1 e Q k =>
  ha H1 e _ fun H2 e2 => hb H2 (e.trans e2) _ fun H3 e3 => h1 H3 H3 (Ex.refl _) _ fun H4 e4 => ⟨a, rfl, by
    cases a with
    | true =>
      rw [if_pos rfl]
      exact hc H4 (((e.trans e2).trans e3).trans e4) _ fun H5 e5 => h2 H5 H5 (Ex.refl _) _ fun H6 e6 => k H6 ((((e2.trans e3).trans e4).trans e5).trans e6)
    | false =>
      rw [if_neg (by decide)]
      exact k H4 ((e2.trans e3).trans e4)⟩
mutual
theorem Dq.dp : ∀ (d : PyData) (v : V), d.hasDict = false → Dq K p H v d → Dp K H v d
  | _, _, _, .non => .non
  | _, _, _, .bl b => .bl b
  | _, _, _, .int i => .int i
  | _, _, _, .str x => .str x
  | _, _, h0, .lst n m h hs => .lst (SqL.of h) (DqAll.dp _ _ (by simpa [PyData.hasDict] using h0) hs)
  | _, _, h0, .tup h hs => .tup h (DqAll.dp _ _ (by simpa [PyData.hasDict] using h0) hs)
  | _, _, h0, .emp h => by simp [PyData.hasDict] at h0
theorem DqAll.dp : ∀ (ds : List PyData) (vs : List V), PyData.hasDictAll ds = false → DqAll K p H vs ds → DpAll K H vs ds
  | _, _, _, .nil => .nil
  | _, _, h0, .cons h hs => by
    simp only [PyData.hasDictAll, Bool.or_eq_false_iff] at h0
    exact .cons (Dq.dp _ _ h0.1 h) (DqAll.dp _ _ h0.2 hs)
end
end
/-! ### tests that come out false -/
section
variable {K : PySem.W.Frag} {σ : L2.St} {H : Hp} {D : Ends} {t : TT} {tu tw : TS}
theorem yes_of {Q : Bool → Hp → Prop} (h : Q true H) : tYes σ H Q := h
theorem s_skip (h : EvT t σ H false) (k : ∀ H1, Ex H H1 → D.nx σ H1) : tIfS t tu tNext D σ H := s_if h (fun z => nomatch z) fun _ H1 e => k H1 e
theorem dec_ne {x y : Int} (h : x = y) : (!decide (V.int x = V.int y)) = false := by subst h; simp
theorem dec_neQ {x y : Rat} (h : x = y) : (!decide (x = y)) = false := by subst h; simp
theorem or_ff {a b : Bool} (h : a = false) (h' : b = false) : (a || b) = false := by subst h h'; rfl
/-- the test «two fractions differ» of two that are the same -/
theorem et_neF {ta tb : TE} {b c : Nat} {q r : Rat} (ha : EvP ta σ H (Fr K b q)) (hb : EvP tb σ H (Fr K c r)) (h : q = r) : EvT (tTest (tOp (rNeD K) ta tb)) σ H false := et_is (et_test (ev_neD ha hb)) (dec_neQ h)
theorem et_orF {t u : TT} (h1 : EvT t σ H false) (h2 : EvT u σ H false) : EvT (tOr t u) σ H false := et_is (et_or h1 fun _ => h2) rfl
/-- a written pair -/
theorem ep_lit {x y : Int} {q : Rat} {b : Nat} (e1 : x = q.num) (e2 : y = (q.den : Int)) (bd : Bd b q) : EvP (tTup (tCons (tC (.int x)) (tCons (tC (.int y)) tNil))) σ H (Fr K b q) := ep_tup ev_c ev_c e1 e2 bd
theorem ep_01 : EvP (tTup (tCons (tC (.int 0)) (tCons (tC (.int 1)) tNil))) σ H (Fr K 1 0) := ep_lit rfl rfl ⟨by decide, by decide⟩
end
/-! ### data that is drawn -/
section
variable {K : PySem.W.Frag} {p : Addr} {σ : L2.St} {H H' : Hp} {te ta tb : TE} {v : V} {d : PyData} {ds : List PyData} {tt : TT}
def EvD (K : PySem.W.Frag) (p : Addr) (te : TE) (σ : L2.St) (H : Hp) (d : PyData) : Prop := EvP te σ H fun v H => Dq K p H v d
def EvDs (K : PySem.W.Frag) (p : Addr) (ta : TA) (σ : L2.St) (H : Hp) (ds : List PyData) : Prop := ∀ H1, Ex H H1 → ∀ Q : List V → Hp → Prop, (∀ vs H2, Ex H1 H2 → DqAll K p H2 vs ds → Q vs H2) → ta σ H1 Q
theorem ed_ev (h : Ev te σ H v) (hd : ∀ H, Dq K p H v d) : EvD K p te σ H d := fun H1 e Q k => h H1 e Q fun H2 e2 => k v H2 e2 (hd H2)
theorem ed_var {i : Nat} (h : σ[i]? = some (some v)) (hd : Dq K p H v d) : EvD K p (tVar i) σ H d := fun H1 e _ k => ⟨v, h, k v H1 (Ex.refl H1) (Dq.ex e _ _ hd)⟩
theorem ed_int {n : Int} : EvD K p (tC (.int n)) σ H (.int n) := ed_ev ev_c fun _ => .int n
theorem ed_neg {n : Int} : EvD K p (tUn (rU fun i => .int (-i)) (tC (.int n))) σ H (.int (-n)) := ed_ev (ev_neg ev_c) fun _ => .int _
theorem ed_bool {b : Bool} : EvD K p (tC (.bl b)) σ H (.bool b) := ed_ev ev_c fun _ => .bl b
theorem ed_none : EvD K p (tC .non) σ H .none := ed_ev ev_c fun _ => .non
theorem ed_str {x : Str} : EvD K p (tC (.str x)) σ H (.str x) := ed_ev ev_c fun _ => .str x
theorem ed_fr {b : Nat} {q : Rat} (h : EvP te σ H (Fr K b q)) : EvD K p te σ H (frd q) := fun H1 e Q k => h H1 e Q fun v H2 e2 f => k v H2 e2 f.dq
theorem eds_nil : EvDs K p tNil σ H [] := fun H1 e Q k => k [] H1 (Ex.refl H1) .nil
theorem eds_cons {tr : TA} (h : EvD K p te σ H d) (hs : EvDs K p tr σ H ds) : EvDs K p (tCons te tr) σ H (d :: ds) := fun H1 e Q k =>
  h H1 e _ fun v H2 e2 q => hs H2 (e.trans e2) _ fun vs H3 e3 qs => k _ H3 (e2.trans e3) (.cons (Dq.ex e3 _ _ q) qs)
theorem ed_tup {ta : TA} (h : EvDs K p ta σ H ds) (hl : ds.length ≤ 1000) : EvD K p (tTup ta) σ H (.tuple ds) := fun H1 e Q k =>
  h H1 e _ fun vs H2 e2 qs => ⟨Nat.le_of_lt (small1000 (by rw [qs.len]; exact hl)), fun a fa => k _ _ (e2.trans (Ex.new fa)) (.tup (SqT.of upd_same) (DqAll.ex (Ex.new fa) _ _ qs))⟩
theorem ed_lst {ta : TA} {o : HO} (hp : H p = some o) (h : EvDs K p ta σ H ds) (hl : ds.length ≤ 1000) : EvD K p (tLstN ta) σ H (.list ds) := fun H1 e Q k =>
  h H1 e _ fun vs H2 e2 qs => ⟨Nat.le_of_lt (small1000 (by rw [qs.len]; exact hl)), fun a fa fm => k _ _ (e2.trans (Ex.new fa)) (.lst (ne_of_none (e2 _ _ (e _ _ hp)) fa).symm fm upd_same (DqAll.ex (Ex.new fa) _ _ qs))⟩
end
def tI (n : Int) : TE := tC (.int n)
def tN (n : Int) : TE := tUn (rU fun i => .int (-i)) (tC (.int n))
def tP (a b : TE) : TE := tTup (tCons a (tCons b tNil))
section
variable {K : PySem.W.Frag} {p : Addr} {σ : L2.St} {H : Hp} {a b : TE} {d e : PyData} {v : V} {q r : Rat}
theorem ed_I {n : Int} : EvD K p (tI n) σ H (.int n) := ed_int
theorem ed_N {n : Int} : EvD K p (tN n) σ H (.int (-n)) := ed_neg
theorem ed_P (h : EvD K p a σ H d) (g : EvD K p b σ H e) : EvD K p (tP a b) σ H (.tuple [d, e]) := ed_tup (eds_cons h (eds_cons g eds_nil)) (by show 2 ≤ 1000; decide)
def LstD (K : PySem.W.Frag) (p : Addr) (ds : List PyData) (v : V) (H : Hp) : Prop := ∃ (l : Addr) (vs : List V), v = .ref l ∧ l ≠ p ∧ l ≠ sysModules ∧ H l = some (.lst vs) ∧ DqAll K p H vs ds
def LstD0 (K : PySem.W.Frag) (p : Addr) (ds : List PyData) (v : V) (H : Hp) : Prop := ∃ (l : Addr) (vs : List V), v = .ref l ∧ l ≠ p ∧ H l = some (.lst vs) ∧ DqAll K p H vs ds
theorem LstD.to0 {ds : List PyData} (h : LstD K p ds v H) : LstD0 K p ds v H := by
  obtain ⟨l, vs, rfl, n, m, h, q⟩ := h
  exact ⟨l, vs, rfl, n, h, q⟩
theorem el_lst {tm : TA} {ds : List PyData} {o : HO} (hh : H p = some o) (hm : EvDs K p tm σ H ds) (hl : ds.length ≤ 900) : EvP (tLstN tm) σ H (LstD K p ds) := fun H1 e Q k =>
  hm H1 e _ fun vs H2 e2 qs => ⟨Nat.le_of_lt (small1000 (by rw [qs.len]; omega)), fun l fl fm => k _ _ (e2.trans (Ex.new fl)) ⟨l, vs, rfl, (ne_of_none (e2 _ _ (e _ _ hh)) fl).symm, fm, upd_same, DqAll.ex (Ex.new fl) _ _ qs⟩⟩
end
/-! ### tables -/
section
variable {P : Program} {w : World} {K : PySem.W.Frag} {mg : Str → Option Value} {base : Heap}
/-- a def by its body, its code object known -/
theorem okC {x qual : Str} {st : Stmt} {f c : Addr} {fd : FuncData} {N ps : List Str} {k : Nat} {sp : Sp} (F : Fun K x qual st f fd) (hc : fd.code = .ref c) (S : FnScope N ps (defScope st)) (len : ∀ vs H Q E, sp vs H Q E → vs.length = ps.length)
    (body : ∀ (A : Around) (outer : List Env) (s : Shared) (H : Hp) (vs : List V) (Q : VK) (E : XK), Room k (A.deeper (envOfC qual (defScope st) s.heap.objs.size f (.ref c))) → sp vs H Q E →
      ∃ t, PSs (cxOf CX0 P w K mg base N qual (defScope st) f (.ref c) A outer s H E).nox (defBody st) t ∧ t { nx := fun _ H' => Q .non H', rt := Q } (start N vs) H) : FnOk P w K mg base CX0 (k + 1) f fd ps sp := by
  obtain ⟨oc, od, kV, doc, pm, an, cdv, ct, osl, rfl, lk, hcd⟩ := F.ex
  obtain rfl : cdv = .ref c := hc
  apply fn_of lk hcd S len
  intro A outer s H vs Q E hr hsp
  obtain ⟨t, h, q⟩ := body A outer s H vs Q E hr hsp
  exact ⟨t, h.nox, q⟩
end
theorem num_pos_iff (q : Rat) : 0 < q.num ↔ 0 < q := by
  have h1 : (0 : Int) ≤ q.num ↔ 0 ≤ q := Rat.num_nonneg
  have h2 : q.num = 0 ↔ q = 0 := Rat.num_eq_zero
  constructor
  · intro h
    have a := h1.mp (by omega)
    have b : q ≠ 0 := fun e => by have := h2.mpr e; omega
    grind
  · intro h
    have a := h1.mpr (by grind)
    have b : q.num ≠ 0 := fun e => by have := h2.mp e; grind
    omega
section
variable {P : Program} {w : World} {K : PySem.W.Frag} {mg : Str → Option Value} {base : Heap}
theorem ok_lowest (T : Txt K mg) : FnOk P w K mg base CX0 1 T.d_lowest.a T.d_lowest.fd ["top", "bottom"] (spLow K) := by
  refine T.d_lowest.F.ok sc_lowest (fun vs H Q E h => ?_) (fun cdv A outer s H vs Q E hr h => ?_)
  · obtain ⟨n, d, b, rfl, _⟩ := h
    rfl
  · obtain ⟨n, d, b, rfl, hd, hn, hb, hl, k⟩ := h
    refine ⟨_, (pss_cons (ps_set (i := 2) sc_lowest.nd rfl (Or.inl rfl) (pe_callBfun cr_gcd (by rfl) T.n_gcd (pa_cons (pv 0) (pa_cons (pv 1) pa_nil))))
      (pss_cons (ps_if (pt_cmpR op_lt (pv 1) pe_int (nomark _)) (pss_one (ps_set (i := 2) sc_lowest.nd rfl (Or.inl rfl) (pe_un un_neg (pv 2)))) pss_nil)
      (pss_one (ps_ret (pe_tup (pa_cons (pe_op op_fdivZ (pv 0) (pv 2)) (pa_cons (pe_op op_fdivZ (pv 1) (pv 2)) pa_nil))))))), ?_⟩
    have e := lowest_eq n d hd
    have hG : Nat.gcd n.natAbs d.natAbs ≤ d.natAbs := Nat.gcd_le_right _ (by omega)
    have hp := gcd_pos (n := n) hd
    refine ⟨_, rfl, _, rfl, n, d, rfl, ?_⟩
    refine ⟨_, rfl, d, 0, rfl, rfl, _, rfl, ite2 (fun c => ?_) (fun c => ?_)⟩
    · have c' : d < 0 := of_decide_eq_true c
      rw [if_pos c'] at e
      refine ⟨_, rfl, _, rfl, ?_⟩
      have hz : ∀ i : Int, CDivZ i (-((Nat.gcd n.natAbs d.natAbs : Nat) : Int)) := fun _ => ⟨by omega, by
        have : (-((Nat.gcd n.natAbs d.natAbs : Nat) : Int)).natAbs = Nat.gcd n.natAbs d.natAbs := by omega
        rw [this]
        exact log_lt (Nat.lt_of_le_of_lt hG hb) (by omega : b ≤ 9000) (by decide)⟩
      exact s_retP (ep_tup (b := b) (ev_fdivZ (ev_var rfl) (ev_var rfl) (hz _)) (ev_fdivZ (ev_var rfl) (ev_var rfl) (hz _)) e.1 e.2 (bd_divInt hd hn hb)) fun z H1 e w => k z H1 e w
    · have c' : ¬ d < 0 := fun z => c (decide_eq_true z)
      rw [if_neg c'] at e
      have hz : ∀ i : Int, CDivZ i ((Nat.gcd n.natAbs d.natAbs : Nat) : Int) := fun _ => ⟨by omega, by
        have : ((Nat.gcd n.natAbs d.natAbs : Nat) : Int).natAbs = Nat.gcd n.natAbs d.natAbs := by omega
        rw [this]
        exact log_lt (Nat.lt_of_le_of_lt hG hb) (by omega : b ≤ 9000) (by decide)⟩
      exact s_retP (ep_tup (b := b) (ev_fdivZ (ev_var rfl) (ev_var rfl) (hz _)) (ev_fdivZ (ev_var rfl) (ev_var rfl) (hz _)) e.1 e.2 (bd_divInt hd hn hb)) fun z H1 e w => k z H1 e w
theorem ok_add (T : Txt K mg) : FnOk P w K mg base CX0 2 T.d_add.a T.d_add.fd ["one", "other"] (sp2 K (fun _ => True) fun q r => q + r) := by
  refine T.d_add.F.ok sc_add (fun vs H Q E h => ?_) (fun cdv A outer s H vs Q E hr h => ?_)
  · obtain ⟨u, v, b, c, q, r, rfl, _⟩ := h
    rfl
  · obtain ⟨u, v, b, c, q, r, rfl, f, g, hl, _, k⟩ := h
    refine ⟨_, (pss_one (ps_ret (pe_call (ok_lowest T) (hr.mono (by decide)) (by rfl) T.d_lowest.g T.d_lowest.F.kp T.d_lowest.b .nil pass0 (pa_cons (pe_op op_add (pe_op op_mulW (pe_ix ix_tup (pv 0) pe_int (fun _ _ => rfl)) (pe_ix ix_tup (pv 1) pe_int (fun _ _ => rfl))) (pe_op op_mulW (pe_ix ix_tup (pv 1) pe_int (fun _ _ => rfl)) (pe_ix ix_tup (pv 0) pe_int (fun _ _ => rfl)))) (pa_cons (pe_op op_mulW (pe_ix ix_tup (pv 0) pe_int (fun _ _ => rfl)) (pe_ix ix_tup (pv 1) pe_int (fun _ _ => rfl))) pa_nil))))), ?_⟩
    have F := @ep_var K (start n_add [u, v]) H u b q 0 rfl f
    have G := @ep_var K (start n_add [u, v]) H v c r 1 rfl g
    have x := f.bd
    have y := g.bd
    exact s_retP (ep_Low (b := b + c + 1) (ev_add (ev_mulW (ev_0 F) (ev_1 G) (mulW x.1 (bd_den y) (by omega))) (ev_mulW (ev_0 G) (ev_1 F) (mulW y.1 (bd_den x) (by omega)))) (ev_mulW (ev_1 F) (ev_1 G) (mulW (bd_den x) (bd_den y) (by omega)))
      (Int.mul_ne_zero (den_ne q) (den_ne r)) (bn_add (bn_mul x.1 (bd_den y)) (by rw [Nat.add_comm b c]; exact bn_mul y.1 (bd_den x))) (lt_pow_mono (Nat.le_succ _) (bn_mul (bd_den x) (bd_den y))) hl (add_eq q r)) fun z H1 e w => k z H1 e w
theorem ok_multiply (T : Txt K mg) : FnOk P w K mg base CX0 2 T.d_multiply.a T.d_multiply.fd ["one", "other"] (sp2 K (fun _ => True) fun q r => q * r) := by
  refine T.d_multiply.F.ok sc_multiply (fun vs H Q E h => ?_) (fun cdv A outer s H vs Q E hr h => ?_)
  · obtain ⟨u, v, b, c, q, r, rfl, _⟩ := h
    rfl
  · obtain ⟨u, v, b, c, q, r, rfl, f, g, hl, _, k⟩ := h
    refine ⟨_, (pss_one (ps_ret (pe_call (ok_lowest T) (hr.mono (by decide)) (by rfl) T.d_lowest.g T.d_lowest.F.kp T.d_lowest.b .nil pass0 (pa_cons (pe_op op_mulW (pe_ix ix_tup (pv 0) pe_int (fun _ _ => rfl)) (pe_ix ix_tup (pv 1) pe_int (fun _ _ => rfl))) (pa_cons (pe_op op_mulW (pe_ix ix_tup (pv 0) pe_int (fun _ _ => rfl)) (pe_ix ix_tup (pv 1) pe_int (fun _ _ => rfl))) pa_nil))))), ?_⟩
    have F := @ep_var K (start n_multiply [u, v]) H u b q 0 rfl f
    have G := @ep_var K (start n_multiply [u, v]) H v c r 1 rfl g
    have x := f.bd
    have y := g.bd
    exact s_retP (ep_Low (b := b + c + 1) (ev_mulW (ev_0 F) (ev_0 G) (mulW x.1 y.1 (by omega))) (ev_mulW (ev_1 F) (ev_1 G) (mulW (bd_den x) (bd_den y) (by omega)))
      (Int.mul_ne_zero (den_ne q) (den_ne r)) (lt_pow_mono (Nat.le_succ _) (bn_mul x.1 y.1)) (lt_pow_mono (Nat.le_succ _) (bn_mul (bd_den x) (bd_den y))) hl (mul_eq q r)) fun z H1 e w => k z H1 e w
theorem ok_subtract (T : Txt K mg) : FnOk P w K mg base CX0 2 T.d_subtract.a T.d_subtract.fd ["one", "other"] (sp2 K (fun _ => True) fun q r => q - r) := by
  refine T.d_subtract.F.ok sc_subtract (fun vs H Q E h => ?_) (fun cdv A outer s H vs Q E hr h => ?_)
  · obtain ⟨u, v, b, c, q, r, rfl, _⟩ := h
    rfl
  · obtain ⟨u, v, b, c, q, r, rfl, f, g, hl, _, k⟩ := h
    refine ⟨_, (pss_one (ps_ret (pe_call (ok_lowest T) (hr.mono (by decide)) (by rfl) T.d_lowest.g T.d_lowest.F.kp T.d_lowest.b .nil pass0 (pa_cons (pe_op op_sub (pe_op op_mulW (pe_ix ix_tup (pv 0) pe_int (fun _ _ => rfl)) (pe_ix ix_tup (pv 1) pe_int (fun _ _ => rfl))) (pe_op op_mulW (pe_ix ix_tup (pv 1) pe_int (fun _ _ => rfl)) (pe_ix ix_tup (pv 0) pe_int (fun _ _ => rfl)))) (pa_cons (pe_op op_mulW (pe_ix ix_tup (pv 0) pe_int (fun _ _ => rfl)) (pe_ix ix_tup (pv 1) pe_int (fun _ _ => rfl))) pa_nil))))), ?_⟩
    have F := @ep_var K (start n_subtract [u, v]) H u b q 0 rfl f
    have G := @ep_var K (start n_subtract [u, v]) H v c r 1 rfl g
    have x := f.bd
    have y := g.bd
    exact s_retP (ep_Low (b := b + c + 1) (ev_sub (ev_mulW (ev_0 F) (ev_1 G) (mulW x.1 (bd_den y) (by omega))) (ev_mulW (ev_0 G) (ev_1 F) (mulW y.1 (bd_den x) (by omega)))) (ev_mulW (ev_1 F) (ev_1 G) (mulW (bd_den x) (bd_den y) (by omega)))
      (Int.mul_ne_zero (den_ne q) (den_ne r)) (bn_sub (bn_mul x.1 (bd_den y)) (by rw [Nat.add_comm b c]; exact bn_mul y.1 (bd_den x))) (lt_pow_mono (Nat.le_succ _) (bn_mul (bd_den x) (bd_den y))) hl (sub_eq q r)) fun z H1 e w => k z H1 e w
def spNeg (K : PySem.W.Frag) : Sp := fun vs H Q _ => ∃ (u : V) (b : Nat) (q : Rat), vs = [u] ∧ Fr K b q u H ∧ ∀ z H', Ex H H' → Fr K b (-q) z H' → Q z H'
/-- above 0 and below 1 -/
def prpB (d : PyData) : Bool := frB d && (decide (0 < (frQ d).num) && decide ((frQ d).num < ((frQ d).den : Int)))
def spLt (K : PySem.W.Frag) : Sp := fun vs H Q _ => ∃ (u v : V) (b c : Nat) (q r : Rat), vs = [u, v] ∧ Fr K b q u H ∧ Fr K c r v H ∧ b + c ≤ 8000 ∧ ∀ H', Ex H H' → Q (.bl (decide (q < r))) H'
theorem lt_num (q r : Rat) : decide (q.num * (r.den : Int) < r.num * (q.den : Int)) = decide (q < r) := by
  rw [Bool.eq_iff_iff, decide_eq_true_iff, decide_eq_true_iff]
  exact (Rat.lt_iff q r).symm
def posZ (d : PyData) : Bool := frB d && decide (0 ≤ (frQ d).num)
theorem ok_is_from_zero (T : Txt K mg) : FnOk P w K mg base CX0 3 T.d_is_from_zero.a T.d_is_from_zero.fd ["value"] (spIsD K Any posZ) := by
  refine T.d_is_from_zero.F.ok sc_is_from_zero (fun vs H Q E h => ?_) (fun cdv A outer s H vs Q E hr h => ?_)
  · obtain ⟨p, v, d, rfl, _⟩ := h
    rfl
  · obtain ⟨p, v, d, rfl, hd, _, k⟩ := h
    refine ⟨_, (pss_one (ps_ret (pe_and (pe_call (ok_is_fraction T) (hr.mono (by decide)) (by rfl) T.d_is_fraction.g T.d_is_fraction.F.kp T.d_is_fraction.b .nil pass0 (pa_cons (pv 0) pa_nil)) (pe_one (pe_cmpR op_ge (pe_ix ix_tup (pv 0) pe_int (fun _ _ => rfl)) pe_int (nomark _)))))), ?_⟩
    refine s_ret (ev_andV (b := decide (0 ≤ (frQ d).num)) (ev_isD (ev_var rfl) hd trivial) fun hb => ?_) fun H1 e => k H1 e
    have hq := frB_iff hb
    have hd' : Dq K p H v (.tuple [.int (frQ d).num, .int ((frQ d).den : Int)]) := by
      rw [hq] at hd
      exact hd
    intro H1 e1 Q kk
    refine ed_ix (K := K) (p := p) (j := 0) rfl hd' rfl H1 e1 _ fun x H2 e2 q => ?_
    cases q with
    | int n => exact ⟨_, _, rfl, rfl, kk H2 e2⟩
end
/-! ### forests, as data -/
def optD : Option Nat → PyData
  | none => .none
  | some n => .int (n : Nat)
def optV : Option Nat → V
  | none => .non
  | some n => .int (n : Nat)
def tkD (t : Fk) : PyData := .tuple [optD t.par, frd t.pay, frd t.fac]
def fsD (F : List Fk) : PyData := .tuple (F.map tkD)
structure FOk (F : List Fk) : Prop where
  one : 1 ≤ F.length
  most : F.length ≤ 8
  lt : ∀ i p, parF F i = some p → p < i
  pay : ∀ t ∈ F, Bd 40 t.pay
  fac : ∀ t ∈ F, Bd 10 t.fac
  nn : ∀ t ∈ F, 0 ≤ t.fac
theorem Bd.neg {b : Nat} {q : Rat} (h : Bd b q) : Bd b (-q) := ⟨by rw [Rat.neg_num, Int.natAbs_neg]; exact h.1, by rw [Rat.neg_den]; exact h.2⟩
theorem Bd.add {b c : Nat} {q r : Rat} (h : Bd b q) (h' : Bd c r) : Bd (b + c + 1) (q + r) := by
  rw [← add_eq]
  exact bd_divInt (Int.mul_ne_zero (den_ne q) (den_ne r)) (bn_add (bn_mul h.1 (bd_den h')) (by rw [Nat.add_comm b c]; exact bn_mul h'.1 (bd_den h))) (lt_pow_mono (Nat.le_succ _) (bn_mul (bd_den h) (bd_den h')))
theorem Bd.mul {b c : Nat} {q r : Rat} (h : Bd b q) (h' : Bd c r) : Bd (b + c + 1) (q * r) := by
  rw [← mul_eq]
  exact bd_divInt (Int.mul_ne_zero (den_ne q) (den_ne r)) (lt_pow_mono (Nat.le_succ _) (bn_mul h.1 h'.1)) (lt_pow_mono (Nat.le_succ _) (bn_mul (bd_den h) (bd_den h')))
theorem FOk.bpay {F : List Fk} (ok : FOk F) (i : Nat) : Bd 40 (payF F i) := by
  cases h : F[i]? with
  | none =>
    unfold payF
    rw [h]
    exact ⟨by decide, by decide⟩
  | some t =>
    rw [payF_at h]
    exact ok.pay t (List.mem_of_getElem? h)
theorem FOk.bfac {F : List Fk} (ok : FOk F) (i : Nat) : Bd 10 (facF F i) := by
  cases h : F[i]? with
  | none =>
    unfold facF
    rw [h]
    exact ⟨by decide, by decide⟩
  | some t =>
    rw [facF_at h]
    exact ok.fac t (List.mem_of_getElem? h)
theorem FOk.nnf {F : List Fk} (ok : FOk F) (i : Nat) : 0 ≤ facF F i := by
  cases h : F[i]? with
  | none =>
    unfold facF
    rw [h]
    exact Rat.le_refl
  | some t =>
    rw [facF_at h]
    exact ok.nn t (List.mem_of_getElem? h)
theorem FOk.bworth {F : List Fk} (ok : FOk F) : ∀ l : List Nat, Bd (2 + 52 * l.length) (worthF F l)
  | [] => (show Bd 2 0 from ⟨by decide, by decide⟩)
  | i :: r => by
    rw [List.length_cons]
    exact ((ok.bpay i).add ((ok.bfac i).mul (FOk.bworth ok r))).mono (by omega)
theorem FOk.bprod {F : List Fk} (ok : FOk F) : ∀ l : List Nat, Bd (2 + 11 * l.length) (prodF F l)
  | [] => (show Bd 2 1 from ⟨by decide, by decide⟩)
  | i :: r => by
    rw [List.length_cons]
    exact ((ok.bfac i).mul (FOk.bprod ok r)).mono (by omega)
section
variable {K : PySem.W.Frag} {p : Addr} {H H' : Hp} {v : V} {t : Fk} {o : Option Nat} {F : List Fk}
theorem Dq.frq {b : Nat} {q : Rat} (h : Dq K p H v (frd q)) (bd : Bd b q) : Fr K b q v H := by
  have := h.fr (b := b) (frB_frd q) (by rw [frQ_frd]; exact bd)
  rwa [frQ_frd] at this
theorem Fr.re {b c : Nat} {q : Rat} (h : Fr K b q v H) (bd : Bd c q) : Fr K c q v H := by
  obtain ⟨a, rfl, h, _⟩ := h
  exact ⟨a, rfl, h, bd⟩
theorem opt_V (h : Dq K p H v (optD o)) : v = optV o := by
  cases o <;> (cases h; rfl)
theorem opt_D : Dq K p H (optV o) (optD o) := by
  cases o
  · exact .non
  · exact .int _
theorem Dq.t3 (h : Dq K p H v (tkD t)) : ∃ a x y, v = .ref a ∧ SqT K H a [optV t.par, x, y] ∧ Dq K p H x (frd t.pay) ∧ Dq K p H y (frd t.fac) := by
  obtain ⟨a, xs, rfl, hS, hA⟩ := h.seq
  cases hA with
  | cons h1 r =>
    cases r with
    | cons h2 r =>
      cases r with
      | cons h3 r =>
        cases r
        cases opt_V h1
        exact ⟨a, _, _, rfl, hS, h2, h3⟩
theorem DqAll.at_ {f : Fk → PyData} {vs : List V} {i : Nat} {x : V} (h : DqAll K p H vs (F.map f)) (e : vs[i]? = some x) : ∃ t, F[i]? = some t ∧ Dq K p H x (f t) := by
  have il : i < vs.length := (List.getElem?_eq_some_iff.mp e).1
  have l := h.len
  rw [List.length_map] at l
  have e2 : F[i]? = some F[i] := List.getElem?_eq_getElem (by omega)
  obtain ⟨x', h1, h2⟩ := h.get (j := i) (dj := f F[i]) (by rw [List.getElem?_map, e2]; rfl)
  rw [e] at h1
  cases h1
  exact ⟨_, e2, h2⟩
end
/-! flat data stays where a list changes -/
mutual
def flatD : PyData → Bool
  | .list _ => false
  | .dict _ => false
  | .tuple ds => flatDA ds
  | _ => true
def flatDA : List PyData → Bool
  | [] => true
  | d :: ds => flatD d && flatDA ds
end
def tupd (H : Hp) (a : Addr) : Prop := (∀ xs, H a ≠ some (.tup xs)) ∧ ∀ xs o, H a ≠ some (.frz o (.tup xs))
theorem tupd_l {H : Hp} {a : Addr} {xs : List V} (h : H a = some (.lst xs)) : tupd H a := ⟨fun ys => by rw [h]; exact (nofun), fun ys o => by rw [h]; exact (nofun)⟩
theorem tupd_k {H : Hp} {a : Addr} {xs : List (Key × V)} (h : H a = some (.dK xs)) : tupd H a := ⟨fun ys => by rw [h]; exact (nofun), fun ys o => by rw [h]; exact (nofun)⟩
theorem tupd_t {H : Hp} {a : Addr} (h : GxR.TabG H a) : tupd H a := by
  obtain ⟨ps, h, _⟩ := h
  exact ⟨fun ys => by rw [h]; exact (nofun), fun ys o => by rw [h]; exact (nofun)⟩
theorem sqt_tb {K : PySem.W.Frag} {H H' : Hp} {p c : Addr} {ys : List V} (hp : tupd H p) (e : ExB p H H') (h : SqT K H c ys) : SqT K H' c ys := by
  rcases h with (h | ⟨o, h⟩) | h
  · exact .inl (.inl (e c _ (by rintro rfl; exact hp.1 ys h) h))
  · exact .inl (.inr ⟨o, e c _ (by rintro rfl; exact hp.2 ys o h) h⟩)
  · exact .inr h
theorem Fr.tb {K : PySem.W.Frag} {H H' : Hp} {p : Addr} {b : Nat} {q : Rat} {z : V} (hp : tupd H p) (e : ExB p H H') (h : Fr K b q z H) : Fr K b q z H' := by
  obtain ⟨c, rfl, h, x⟩ := h
  exact ⟨c, rfl, sqt_tb hp e h, x⟩
mutual
theorem Dq.fl {K : PySem.W.Frag} {p D : Addr} {H H' : Hp} (hD : tupd H D) (e : ExB D H H') : ∀ (d : PyData) (v : V), flatD d = true → Dq K p H v d → Dq K p H' v d
  | _, _, _, .non => .non
  | _, _, _, .bl b => .bl b
  | _, _, _, .int i => .int i
  | _, _, _, .str x => .str x
  | _, _, f, .lst n m h hs => by simp [flatD] at f
  | _, _, f, .tup h hs => .tup (sqt_tb hD e h) (DqAll.fl hD e _ _ (by simpa [flatD] using f) hs)
  | _, _, f, .emp h => by simp [flatD] at f
theorem DqAll.fl {K : PySem.W.Frag} {p D : Addr} {H H' : Hp} (hD : tupd H D) (e : ExB D H H') : ∀ (ds : List PyData) (vs : List V), flatDA ds = true → DqAll K p H vs ds → DqAll K p H' vs ds
  | _, _, _, .nil => .nil
  | _, _, f, .cons h hs => by
    simp only [flatDA, Bool.and_eq_true] at f
    exact .cons (Dq.fl hD e _ _ f.1 h) (DqAll.fl hD e _ _ f.2 hs)
end
mutual
/-- flat data speaks of no list -/
theorem Dq.any {K : PySem.W.Frag} {p q : Addr} {H : Hp} : ∀ (d : PyData) (v : V), flatD d = true → Dq K p H v d → Dq K q H v d
  | _, _, _, .non => .non
  | _, _, _, .bl b => .bl b
  | _, _, _, .int i => .int i
  | _, _, _, .str x => .str x
  | _, _, f, .lst n m h hs => by simp [flatD] at f
  | _, _, f, .tup h hs => .tup h (DqAll.any _ _ (by simpa [flatD] using f) hs)
  | _, _, f, .emp h => by simp [flatD] at f
theorem DqAll.any {K : PySem.W.Frag} {p q : Addr} {H : Hp} : ∀ (ds : List PyData) (vs : List V), flatDA ds = true → DqAll K p H vs ds → DqAll K q H vs ds
  | _, _, _, .nil => .nil
  | _, _, f, .cons h hs => by
    simp only [flatDA, Bool.and_eq_true] at f
    exact .cons (Dq.any _ _ f.1 h) (DqAll.any _ _ f.2 hs)
end
theorem flat_frd (q : Rat) : flatD (frd q) = true := rfl
theorem flat_opt (o : Option Nat) : flatD (optD o) = true := by cases o <;> rfl
theorem flatDA_of : ∀ {ds : List PyData}, (∀ d ∈ ds, flatD d = true) → flatDA ds = true
  | [], _ => rfl
  | d :: ds, h => by
    simp only [flatDA, Bool.and_eq_true]
    exact ⟨h d List.mem_cons_self, flatDA_of fun x hx => h x (List.mem_cons_of_mem _ hx)⟩
theorem flat_tk (t : Fk) : flatD (tkD t) = true := by simp [tkD, flatD, flatDA, flat_frd, flat_opt]
theorem flat_fs (F : List Fk) : flatD (fsD F) = true := flatDA_of fun d hd => by
  obtain ⟨t, _, rfl⟩ := List.mem_map.mp hd
  exact flat_tk t
def intsV (ns : List Nat) : List V := ns.map fun (n : Nat) => V.int n
theorem intsV_len (ns : List Nat) : (intsV ns).length = ns.length := List.length_map ..
theorem intsV_at {ns : List Nat} {i : Nat} {x : V} (h : (intsV ns)[i]? = some x) : ∃ n : Nat, ns[i]? = some n ∧ x = .int (n : Nat) := by
  unfold intsV at h
  rw [List.getElem?_map] at h
  cases hn : ns[i]? with
  | none => rw [hn] at h; cases h
  | some n =>
    rw [hn] at h
    cases h
    exact ⟨n, rfl, rfl⟩
theorem take_snoc {α : Type} {ns : List α} {i : Nat} {n : α} (h : ns[i]? = some n) : ns.take (i + 1) = ns.take i ++ [n] := by
  rw [List.take_succ, h]
  rfl
theorem worth_snoc (F : List Fk) (a : List Nat) (i : Nat) : worthF F (a ++ [i]) = worthF F a + prodF F a * payF F i := by
  rw [worth_app]
  show _ + _ * (payF F i + facF F i * 0) = _
  grind
theorem prod_snoc (F : List Fk) (a : List Nat) (i : Nat) : prodF F (a ++ [i]) = prodF F a * facF F i := by
  rw [prod_app]
  show _ * (facF F i * 1) = _
  grind
section
variable {K : PySem.W.Frag} {p : Addr} {σ : L2.St} {H : Hp} {u : V} {F : List Fk} {i j n : Nat}
/-- forest[number][1], forest[number][2] -/
theorem ep_pay (ok : FOk F) (hi : σ[i]? = some (some u)) (hu : Dq K p H u (fsD F)) (hj : σ[j]? = some (some (.int (n : Nat)))) (l : n < F.length) : EvP (tOp (rIxT K) (tOp (rIxT K) (tVar i) (tVar j)) (tC (.int 1))) σ H (Fr K 40 (payF F n)) := fun H1 e Q k => by
  obtain ⟨a, xs, rfl, hS, hA⟩ := (Dq.ex e _ _ hu).seq
  have il : n < xs.length := by rw [hA.len, List.length_map]; exact l
  have hx := List.getElem?_eq_getElem il
  obtain ⟨t, ht, qt⟩ := hA.at_ hx
  obtain ⟨b, x0, x1, e1, hb, q0, q1⟩ := qt.t3
  refine ⟨_, hi, _, hj, a, xs, (n : Int), _, rfl, rfl, hS, atI_nat hx, ?_⟩
  rw [e1]
  refine ⟨b, _, 1, x0, rfl, rfl, hb, rfl, k x0 H1 (Ex.refl _) ?_⟩
  rw [payF_at ht]
  exact q0.frq (ok.pay t (List.mem_of_getElem? ht))
theorem ep_fac (ok : FOk F) (hi : σ[i]? = some (some u)) (hu : Dq K p H u (fsD F)) (hj : σ[j]? = some (some (.int (n : Nat)))) (l : n < F.length) : EvP (tOp (rIxT K) (tOp (rIxT K) (tVar i) (tVar j)) (tC (.int 2))) σ H (Fr K 10 (facF F n)) := fun H1 e Q k => by
  obtain ⟨a, xs, rfl, hS, hA⟩ := (Dq.ex e _ _ hu).seq
  have il : n < xs.length := by rw [hA.len, List.length_map]; exact l
  have hx := List.getElem?_eq_getElem il
  obtain ⟨t, ht, qt⟩ := hA.at_ hx
  obtain ⟨b, x0, x1, e1, hb, q0, q1⟩ := qt.t3
  refine ⟨_, hi, _, hj, a, xs, (n : Int), _, rfl, rfl, hS, atI_nat hx, ?_⟩
  rw [e1]
  refine ⟨b, _, 2, x1, rfl, rfl, hb, rfl, k x1 H1 (Ex.refl _) ?_⟩
  rw [facF_at ht]
  exact q1.frq (ok.fac t (List.mem_of_getElem? ht))
end
section
variable {P : Program} {w : World} {K : PySem.W.Frag} {mg : Str → Option Value} {base : Heap}
def spRunOf (K : PySem.W.Frag) : Sp := fun vs H Q _ => ∃ (p : Addr) (u : V) (l : Addr) (F : List Fk) (ns : List Nat), vs = [u, .ref l] ∧ Dq K p H u (fsD F) ∧ FOk F ∧ SqL K H l (intsV ns) ∧ (∀ n ∈ ns, n < F.length) ∧ ns.length ≤ 8 ∧
  ∀ t x y H', Ex H H' → SqT K H' t [x, y] → Fr K (2 + 52 * ns.length) (worthF F ns) x H' → Fr K (2 + 11 * ns.length) (prodF F ns) y H' → Q (.ref t) H'
theorem ok_run_of (T : Txt K mg) : FnOk P w K mg base CX0 3 T.d_run_of.a T.d_run_of.fd ["forest", "tasks"] (spRunOf K) := by
  refine T.d_run_of.F.ok sc_run_of (fun vs H Q E h => ?_) (fun cdv A outer s H vs Q E hr h => ?_)
  · obtain ⟨p, u, l, F, ns, rfl, _⟩ := h
    rfl
  · obtain ⟨p, u, l, F, ns, rfl, hu, ok, hS, hn, l8, k⟩ := h
    refine ⟨_, (pss_cons (ps_par (i := 2) (j := 3) (by rfl) sc_run_of.nd rfl rfl (by decide) rfl rfl (pa_cons (pe_glob (v := .ref T.a_ZERO) rfl T.c_ZERO rfl) (pa_cons (pe_glob (v := .ref T.a_ONE) rfl T.c_ONE rfl) pa_nil)) (by rfl))
      (pss_cons (ps_for PassesOwn.never rfl (pi_list (pv 1)) (pg_name (i := 4) sc_run_of.nd rfl (Or.inl rfl)) (pss_cons (ps_set (i := 2) sc_run_of.nd rfl (Or.inl rfl) (pe_call (ok_add T) (hr.mono (by decide)) (by rfl) T.d_add.g T.d_add.F.kp T.d_add.b .nil pass0 (pa_cons (pv 2) (pa_cons (pe_call (ok_multiply T) (hr.mono (by decide)) (by rfl) T.d_multiply.g T.d_multiply.F.kp T.d_multiply.b .nil pass0 (pa_cons (pv 3) (pa_cons (pe_ix ix_tup (pe_ix ix_tup (pv 0) (pv 4) (fun _ _ => rfl)) pe_int (fun _ _ => rfl)) pa_nil))) pa_nil))))
      (pss_one (ps_set (i := 3) sc_run_of.nd rfl (Or.inl rfl) (pe_call (ok_multiply T) (hr.mono (by decide)) (by rfl) T.d_multiply.g T.d_multiply.F.kp T.d_multiply.b .nil pass0 (pa_cons (pv 3) (pa_cons (pe_ix ix_tup (pe_ix ix_tup (pv 0) (pv 4) (fun _ _ => rfl)) pe_int (fun _ _ => rfl)) pa_nil)))))))
      (pss_one (ps_ret (pe_tup (pa_cons (pv 2) (pa_cons (pv 3) pa_nil))))))), ?_⟩
    have f0 : ∀ G, Fr K 2 0 (.ref T.a_ZERO) G := fun G => ⟨_, rfl, .inr T.k_ZERO, by decide, by decide⟩
    have f1 : ∀ G, Fr K 2 1 (.ref T.a_ONE) G := fun G => ⟨_, rfl, .inr T.k_ONE, by decide, by decide⟩
    refine n_seq ?_
    refine ⟨_, _, rfl, ?_⟩
    dsimp only
    refine n_seq ?_
    refine ⟨_, rfl, l, rfl, ⟨_, hS⟩, ?_⟩
    refine for_list (K := K) (a := l) (xs := intsV ns) (fun i σ G => Ex H G ∧ ∃ (z1 z2 : V) (y : Option V), σ = [some u, some (.ref l), some z1, some z2, y] ∧ Fr K (2 + 52 * i) (worthF F (ns.take i)) z1 G ∧ Fr K (2 + 11 * i) (prodF F (ns.take i)) z2 G) ⟨Ex.refl _, _, _, none, rfl, f0 _, f1 _⟩ (fun i σ G _ h => ex_l h.1 hS) ?_ ?_
    · rintro i x σ G hx ⟨ex, z1, z2, y, rfl, g1, g2⟩
      have il : i < ns.length := by
        have := (List.getElem?_eq_some_iff.mp hx).1
        rwa [intsV_len] at this
      obtain ⟨n, hn1, rfl⟩ := intsV_at hx
      have nl := hn n (List.mem_of_getElem? hn1)
      have tl : (ns.take (i + 1)).length = i + 1 := by rw [List.length_take]; omega
      refine n_name ?_
      dsimp only
      refine n_seq ?_
      refine s_asgP (ep_2 (K := K) (n := (2 + 52 * i) + (2 + 11 * i + 40 + 1) + 1) (ep_var rfl g1) (ep_2 (n := 2 + 11 * i + 40 + 1) (ep_var rfl g2) (ep_pay ok rfl (Dq.ex ex _ _ hu) rfl nl) trivial (by omega) rfl) trivial (by omega) rfl) fun w1 G2 e2 h1 => ?_
      dsimp only
      refine s_asgP (ep_2 (K := K) (n := 2 + 11 * i + 10 + 1) (ep_var rfl (g2.ex e2)) (ep_fac ok rfl (Dq.ex (ex.trans e2) _ _ hu) rfl nl) trivial (by omega) rfl) fun w2 G3 e3 h2 => ?_
      dsimp only
      have b1 := ok.bworth (ns.take (i + 1))
      have b2 := ok.bprod (ns.take (i + 1))
      rw [tl] at b1 b2
      rw [← worth_snoc, ← take_snoc hn1] at h1
      rw [← prod_snoc, ← take_snoc hn1] at h2
      exact ⟨(ex.trans e2).trans e3, w1, w2, _, rfl, (h1.ex e3).re b1, h2.re b2⟩
    · rintro σ G ⟨ex, z1, z2, y, rfl, g1, g2⟩
      rw [intsV_len, List.take_of_length_le (Nat.le_refl _)] at g1 g2
      refine ⟨_, rfl, _, rfl, by show 2 ≤ sizeLine; decide, fun t ft => ?_⟩
      have x1 := Ex.new (o := .tup [z1, z2]) ft
      exact k t z1 z2 _ (ex.trans x1) (SqT.of upd_same) (g1.ex x1) (g2.ex x1)
def spBit : Sp := fun vs H Q _ => ∃ d n : Nat, vs = [.int (d : Nat), .int (n : Nat)] ∧ ∀ H', Ex H H' → Q (.bl (d.testBit n)) H'
theorem bit_int (d n : Nat) : decide (V.int (Builtin.bitAnd ((d : Int) / 2 ^ ((n : Nat) : Int).toNat) 1) = V.int 1) = d.testBit n := by
  rw [bitAnd_m1, Nat.testBit_eq_decide_div_mod_eq, Bool.eq_iff_iff, decide_eq_true_iff, decide_eq_true_iff, V.int.injEq]
  have e : ((d : Int) / 2 ^ ((n : Nat) : Int).toNat) % 2 = ((d / 2 ^ n % 2 : Nat) : Int) := by
    rw [Int.toNat_natCast]
    simp
  rw [e]
  omega
theorem ok_has_bit (T : Txt K mg) : FnOk P w K mg base CX0 1 T.d_has_bit.a T.d_has_bit.fd ["bits", "number"] spBit := by
  refine T.d_has_bit.F.ok sc_has_bit (fun vs H Q E h => ?_) (fun cdv A outer s H vs Q E hr h => ?_)
  · obtain ⟨d, n, rfl, _⟩ := h
    rfl
  · obtain ⟨d, n, rfl, k⟩ := h
    refine ⟨_, (pss_one (ps_ret (pe_cmpR op_eq (pe_op op_and (pe_op op_shr (pv 0) (pv 1)) pe_int) pe_int (nomark _)))), ?_⟩
    refine s_ret (v := .bl (d.testBit n)) (ev_is (ev_op (ev_op (ev_op (ev_var rfl) (ev_var rfl) (rv_I (by omega))) ev_c rv_I0) ev_c (rv_eq rfl)) ?_) fun H1 e => k H1 e
    exact congrArg V.bl (bit_int d n)
end
/-! ### best orders, set by set -/
section
variable {P : Program} {w : World} {K : PySem.W.Frag} {mg : Str → Option Value} {base : Heap}
def opens (F : List Fk) (d m : Nat) : List Nat := (List.range m).filter (okD F d)
theorem opens_succ (F : List Fk) (d m : Nat) : opens F d (m + 1) = opens F d m ++ (if okD F d m = true then [m] else []) := by
  unfold opens
  rw [List.range_succ, List.filter_append]
  congr 1
  by_cases h : okD F d m = true
  · rw [if_pos h]; simp [h]
  · rw [if_neg h]; simp [h]
theorem opens_len (F : List Fk) (d m : Nat) : (opens F d m).length ≤ m := by
  unfold opens
  have := List.length_filter_le (okD F d) (List.range m)
  rwa [List.length_range] at this
theorem mem_opens {F : List Fk} {d i : Nat} : i ∈ opens F d F.length ↔ okD F d i = true := by
  unfold opens
  rw [List.mem_filter, List.mem_range]
  exact ⟨fun h => h.2, fun h => ⟨okD_lt h, h⟩⟩
theorem walk_enumT {K : PySem.W.Frag} {a : Addr} {xs : List V} : Walk (IteT K a) xs.length (fun H => SqT K H a xs) (YPair (fun i => some (.int (i : Nat))) (fun i => xs[i]?)) := by
  refine ⟨fun i _ hi q => ⟨xs, xs[i], q, by simp [hi]⟩, fun _ q => ⟨xs, q, Nat.le_refl _⟩, fun i H v H' _ q y => ?_⟩
  obtain ⟨T, x, h1, h2, h3, h4⟩ := y
  exact ⟨T, .int (i : Nat), x, h1, h2, h3, rfl, h4 xs q⟩
theorem ev_bit {σ : L2.St} {H : Hp} {ta tb : TE} {E : XK} {d n : Nat} (ha : Ev ta σ H (.int (d : Nat))) (hb : Ev tb σ H (.int (n : Nat))) : Ev (tCall spBit [] E (tCons ta (tCons tb tNil))) σ H (.bl (d.testBit n)) := fun H1 e Q k =>
  ha H1 e _ fun H2 e2 => hb H2 (e.trans e2) _ fun H3 e3 => ⟨d, n, rfl, fun H' e' => k H' ((e2.trans e3).trans e')⟩
def spOpn (K : PySem.W.Frag) : Sp := fun vs H Q _ => ∃ (p : Addr) (u : V) (F : List Fk) (d : Nat), vs = [u, .int (d : Nat)] ∧ Dq K p H u (fsD F) ∧ FOk F ∧ ∀ l H', Ex H H' → H l = none → H' l = some (.lst (intsV (opens F d F.length))) → Q (.ref l) H'
theorem ok_open_tasks (T : Txt K mg) : FnOk P w K mg base CX0 2 T.d_open_tasks.a T.d_open_tasks.fd ["forest", "done"] (spOpn K) := by
  refine T.d_open_tasks.F.ok sc_open_tasks (fun vs H Q E h => ?_) (fun cdv A outer s H vs Q E hr h => ?_)
  · obtain ⟨p, u, F, d, rfl, _⟩ := h
    rfl
  · obtain ⟨p, u, F, d, rfl, hu, ok, k⟩ := h
    refine ⟨_, (pss_one (ps_ret (pe_lc (own := [("number", 2), ("parent", 3), ("_", 4)]) (g := gTup K 2 (gCons (gName 2) (gCons (gTup K 3 (gCons (gName 3) (gCons (gName 4) (gCons (gName 4) gNil)))) gNil))) rfl sc_open_tasks.nd (pi_enumT (by rfl) T.n_enumerate (pa_cons (pv 0) pa_nil)) (blkOk_by (own := [("number", 2), ("parent", 3), ("_", 4)]) (N := n_open_tasks) (sc := defScope s_open_tasks) (by decide +kernel)) (fun _ _ _ _ _ => (pg_tup rfl (pgs_cons (pg_name (i := 2) sc_open_tasks.nd rfl (Or.inl rfl)) (pgs_cons (pg_tup (by rfl) (pgs_cons (pg_name (i := 3) sc_open_tasks.nd rfl (Or.inl rfl)) (pgs_cons (pg_name (i := 4) sc_open_tasks.nd rfl (Or.inl rfl)) (pgs_cons (pg_name (i := 4) sc_open_tasks.nd rfl (Or.inl rfl)) pgs_nil)))) pgs_nil)))) (fun _ _ _ _ _ => pts_one (PW.pt (pw_and (pt_not (pt_val (pe_call (ok_has_bit T) (hr.mono (by decide)) (by rfl) T.d_has_bit.g T.d_has_bit.F.kp T.d_has_bit.b .nil pass0 (pa_cons (pv 1) (pa_cons (pv 2) pa_nil))))) (pw_and1 (PW.pt (pw_or (pt_cmpR op_isN (pv 3) pe_non (nomark _)) (pw_or1 (pt_val (pe_call (ok_has_bit T) (hr.mono (by decide)) (by rfl) T.d_has_bit.g T.d_has_bit.F.kp T.d_has_bit.b .nil pass0 (pa_cons (pv 1) (pa_cons (pv 3) pa_nil))))))))))) (fun _ _ _ _ _ => (pv 2))))), ?_⟩
    obtain ⟨a, xs, rfl, hS, hA⟩ := hu.seq
    have xl : xs.length = F.length := by rw [hA.len, List.length_map]
    refine ⟨.ref a, rfl, a, xs, rfl, hS, fun D nD => ?_⟩
    refine lc_it (walk_enumT (K := K) (a := a) (xs := xs)) (fun i G => Ex H G ∧ G D = some (.lst (intsV (opens F d i)))) ⟨Ex.new nD, upd_same⟩ (fun i G _ h => ex_t h.1 hS) ?_ ?_
    · rintro i x G G' hi ⟨ex, hD⟩ ⟨T0, nx, y, rfl, hT0, rfl, h1, h2⟩
      cases h1
      obtain ⟨t, ht, qt⟩ := hA.at_ h2
      have x1 := ex.trans (Ex.new (o := .tup [.int (i : Nat), y]) hT0)
      have nT : D ≠ T0 := ne_of_none hD hT0
      obtain ⟨b, z1, z2, rfl, hb, _, _⟩ := (Dq.ex x1 _ _ qt).t3
      refine ⟨T0, _, rfl, SqT.of upd_same, rfl, _, _, rfl, _, _, rfl, b, _, rfl, hb, rfl, _, _, rfl, _, _, rfl, _, _, rfl, rfl, rfl, ?_⟩
      have il : i < F.length := by omega
      have pe := parF_at ht
      have hb2 : (!d.testBit i && upD (parF F i) d) = okD F d i := by
        unfold okD
        rw [decide_eq_true il, Bool.true_and]
      have hD' : (upd G T0 (.tup [.int (i : Nat), .ref b])) D = some (.lst (intsV (opens F d i))) := by rw [upd_ne nT]; exact hD
      have tst : ∀ (σ : L2.St), σ[1]? = some (some (.int (d : Nat))) → σ[2]? = some (some (.int (i : Nat))) → σ[3]? = some (some (optV t.par)) → EvT (tAnd (tNot (tB (tCall spBit [] E0 (tCons (tVar 1) (tCons (tVar 2) tNil))))) (tOr (tTest (tOp (fun x y H Q => y = V.non ∧ Q (V.bl (decide (x = V.non))) H) (tVar 3) (tC V.non))) (tB (tCall spBit [] E0 (tCons (tVar 1) (tCons (tVar 3) tNil)))))) σ (upd G T0 (.tup [.int (i : Nat), .ref b])) (okD F d i) := fun σ h1 h2 h3 => by
        rw [← hb2, pe]
        cases hp : t.par with
        | none =>
          rw [hp] at h3
          refine et_and (et_not (et_B (ev_bit (ev_var h1) (ev_var h2)))) fun _ => et_is (et_or (a := true) (b := true) (fun H1 e1 Q' k' => ⟨_, h3, rfl, _, rfl, k' H1 (Ex.refl _)⟩) fun z => nomatch z) rfl
        | some q =>
          rw [hp] at h3
          refine et_and (et_not (et_B (ev_bit (ev_var h1) (ev_var h2)))) fun _ => et_is (et_or (a := false) (b := d.testBit q) (fun H1 e1 Q' k' => ⟨_, h3, rfl, _, rfl, k' H1 (Ex.refl _)⟩) fun z => et_B (ev_bit (ev_var h1) (ev_var h3))) rfl
      refine ⟨rfl, ?_⟩
      refine tst _ ?_ ?_ ?_ _ (Ex.refl _) _ fun H3 e3 => ?_
      · rfl
      · rfl
      · rfl
      rw [opens_succ]
      cases hc : okD F d i with
      | true =>
        rw [if_pos rfl, if_pos rfl]
        refine ⟨_, rfl, _, e3 _ _ hD', small1000 (by rw [intsV_len]; have := opens_len F d i; have := ok.most; omega), Ex.mut (x1.trans e3) nD, ?_⟩
        rw [upd_same]
        unfold intsV
        rw [List.map_append]
        rfl
      | false =>
        rw [if_neg (by decide), if_neg (by decide), List.append_nil]
        exact ⟨x1.trans e3, e3 _ _ hD'⟩
    · rintro G ⟨ex, hD⟩
      rw [xl] at hD
      exact k D G ex nD hD
/-! the table -/
open Classical in
noncomputable def bestQ (F : List Fk) (d : Nat) : Rat := if h : ∃ q, ∃ o, Best F d q o then h.choose else 0
theorem best_q {F : List Fk} {d : Nat} {q : Rat} {o : Option Nat} (h : Best F d q o) : q = bestQ F d := by
  have ex : ∃ q, ∃ o, Best F d q o := ⟨q, o, h⟩
  have e : bestQ F d = ex.choose := by
    unfold bestQ
    rw [dif_pos ex]
  obtain ⟨o', h'⟩ := ex.choose_spec
  rw [e]
  generalize ex.choose = r at h'
  obtain ⟨l, f, g, _⟩ := h.has
  obtain ⟨l', f', g', _⟩ := h'.has
  have a := h'.most l f
  have b := h.most l' f'
  grind
noncomputable def valF (F : List Fk) (d i : Nat) : Rat := payF F i + facF F i * bestQ F (addD d i)
/-- an entry of the table -/
def Ent (K : PySem.W.Frag) (F : List Fk) (H : Hp) (d : Nat) (v : V) : Prop := ∃ t x q o, v = .ref t ∧ SqT K H t [x, optV o] ∧ Fr K 470 q x H ∧ Best F d q o
theorem Ent.ex {K : PySem.W.Frag} {F : List Fk} {H H' : Hp} {d : Nat} {v : V} (e : Ex H H') (h : Ent K F H d v) : Ent K F H' d v := by
  obtain ⟨t, x, q, o, rfl, h1, h2, h3⟩ := h
  exact ⟨t, x, q, o, rfl, ex_t e h1, h2.ex e, h3⟩
theorem Ent.tb {K : PySem.W.Frag} {F : List Fk} {H H' : Hp} {D : Addr} {d : Nat} {v : V} (hD : tupd H D) (e : ExB D H H') (h : Ent K F H d v) : Ent K F H' d v := by
  obtain ⟨t, x, q, o, rfl, h1, h2, h3⟩ := h
  exact ⟨t, x, q, o, rfl, sqt_tb hD e h1, h2.tb hD e, h3⟩
def Tbl (K : PySem.W.Frag) (F : List Fk) (H : Hp) (kvs : List (Key × V)) (lo hi : Nat) : Prop := ∀ d, lo ≤ d → d ≤ hi → ∃ v, valV kvs (.inl (d : Nat)) = some v ∧ Ent K F H d v
theorem Tbl.ex {K : PySem.W.Frag} {F : List Fk} {H H' : Hp} {kvs : List (Key × V)} {lo hi : Nat} (e : Ex H H') (h : Tbl K F H kvs lo hi) : Tbl K F H' kvs lo hi := fun d a b => by
  obtain ⟨v, h1, h2⟩ := h d a b
  exact ⟨v, h1, h2.ex e⟩
theorem FOk.best_bd {F : List Fk} (ok : FOk F) {d : Nat} {q : Rat} {o : Option Nat} (h : Best F d q o) : Bd 418 q := by
  obtain ⟨l, f, rfl, _⟩ := h.has
  have : l.length ≤ F.length := by
    have := f.2
    omega
  have := ok.most
  exact (ok.bworth l).mono (by omega)
theorem bor_int (d i : Nat) : Builtin.bitOr (d : Int) (1 * 2 ^ ((i : Nat) : Int).toNat) = ((addD d i : Nat) : Int) := by
  have e : (1 : Int) * 2 ^ ((i : Nat) : Int).toNat = ((2 ^ i : Nat) : Int) := by
    rw [Int.toNat_natCast, Int.one_mul]
    simp
  rw [e, bitOr_nn (Int.natCast_nonneg _) (Int.natCast_nonneg _), Int.toNat_natCast, Int.toNat_natCast]
  rfl
def BestSt (K : PySem.W.Frag) (F : List Fk) (d : Nat) (os : List Nat) (j : Nat) (b4 : V) (G : Hp) : Prop := (j = 0 ∧ b4 = .non) ∨ ∃ t x i, b4 = .ref t ∧ SqT K G t [x, .int ((i : Nat) : Int)] ∧ Fr K 470 (valF F d i) x G ∧ i ∈ os.take j ∧ ∀ k ∈ os.take j, valF F d k ≤ valF F d i
theorem none_ex {H H' : Hp} {a : Addr} (e : Ex H H') (h : H' a = none) : H a = none := by
  cases hh : H a with
  | none => rfl
  | some o => rw [e _ _ hh] at h; cases h
theorem ep_tab {K : PySem.W.Frag} {F : List Fk} {σ : L2.St} {G : Hp} {f : Addr} {d i lo hi : Nat} {kvs : List (Key × V)} (ok : FOk F) (h2 : σ[2]? = some (some (.ref f))) (h3 : σ[3]? = some (some (.int (d : Nat)))) (h5 : σ[5]? = some (some (.int (i : Nat)))) (i8 : i ≤ 8) (hk : G f = some (.dK kvs)) (ht : Tbl K F G kvs lo hi) (l : lo ≤ addD d i) (h : addD d i ≤ hi) :
    EvP (tOp (rIxT K) (tDGet (tVar 2) (tOp (rI0 fun i j => V.int (Builtin.bitOr i j)) (tVar 3) (tOp (rI CPow fun i j => V.int (i * 2 ^ j.toNat)) (tC (V.int 1)) (tVar 5)))) (tC (V.int 0))) σ G (Fr K 418 (bestQ F (addD d i))) := fun H1 e Q k => by
  obtain ⟨v, hv, t, x, q, o, rfl, hS, hf, hb⟩ := ht _ l h
  have eq := best_q hb
  subst eq
  refine ⟨_, h2, _, h3, _, h5, 1, (i : Nat), rfl, rfl, ⟨by omega, by omega, by decide⟩, _, _, rfl, rfl, ?_⟩
  dsimp only
  rw [bor_int]
  have g := DGet.k (k := .inl ((addD d i : Nat) : Int)) (e _ _ hk)
  rw [hv] at g
  refine ⟨f, .ref t, rfl, g, t, _, 0, x, rfl, rfl, ex_t e hS, rfl, k x H1 (Ex.refl _) ((hf.ex e).re (ok.best_bd hb))⟩
def spSets (K : PySem.W.Frag) : Sp := fun vs H Q _ => ∃ (p : Addr) (u : V) (F : List Fk), vs = [u] ∧ Dq K p H u (fsD F) ∧ FOk F ∧ ∀ f kvs H', Ex H H' → H f = none → H' f = some (.dK kvs) → Tbl K F H' kvs 0 (2 ^ F.length - 1) → Q (.ref f) H'
theorem ok_best_by_sets (T : Txt K mg) : FnOk P w K mg base CX0 3 T.d_best_by_sets.a T.d_best_by_sets.fd ["forest"] (spSets K) := by
  refine T.d_best_by_sets.F.ok sc_best_by_sets (fun vs H Q E h => ?_) (fun cdv A outer s H vs Q E hr h => ?_)
  · obtain ⟨p, u, F, rfl, _⟩ := h
    rfl
  · obtain ⟨p, u, F, rfl, hu, ok, k⟩ := h
    have hu1 := hu_of hr
    refine ⟨_, (pss_cons (ps_set (i := 1) sc_best_by_sets.nd rfl (Or.inl rfl) (pe_op op_sub (pe_op op_shl pe_int (pe_callB call_len_seq (by rfl) T.n_len (by decide +kernel) (pa_cons (pv 0) pa_nil))) pe_int))
      (pss_cons (ps_set (i := 2) sc_best_by_sets.nd rfl (Or.inl rfl) (pe_disp (pps_cons (pv 1) (pe_tup (pa_cons (pe_glob (v := .ref T.a_ZERO) rfl T.c_ZERO rfl) (pa_cons pe_non pa_nil))) pps_nil) rfl rfl (by simp) (by decide)))
      (pss_cons (ps_for PassesOwn.never rfl (pi_revR (by rfl) T.n_reversed (prg_1 (by rfl) T.n_range (pv 1))) (pg_name (i := 3) sc_best_by_sets.nd rfl (Or.inl rfl)) (pss_cons (ps_set (i := 4) sc_best_by_sets.nd rfl (Or.inl rfl) pe_non)
      (pss_cons (ps_for PassesOwn.never rfl (pi_list (pe_call (ok_open_tasks T) (hr.mono (by decide)) (by rfl) T.d_open_tasks.g T.d_open_tasks.F.kp T.d_open_tasks.b .nil pass0 (pa_cons (pv 0) (pa_cons (pv 3) pa_nil)))) (pg_name (i := 5) sc_best_by_sets.nd rfl (Or.inl rfl)) (pss_cons (ps_asg (pe_ix ix_tup (pv 0) (pv 5) (fun _ _ => rfl)) (pg_tup (by rfl) (pgs_cons (pg_name (i := 6) sc_best_by_sets.nd rfl (Or.inl rfl)) (pgs_cons (pg_name (i := 7) sc_best_by_sets.nd rfl (Or.inl rfl)) (pgs_cons (pg_name (i := 8) sc_best_by_sets.nd rfl (Or.inl rfl)) pgs_nil)))))
      (pss_cons (ps_set (i := 9) sc_best_by_sets.nd rfl (Or.inl rfl) (pe_call (ok_add T) (hr.mono (by decide)) (by rfl) T.d_add.g T.d_add.F.kp T.d_add.b .nil pass0 (pa_cons (pv 7) (pa_cons (pe_call (ok_multiply T) (hr.mono (by decide)) (by rfl) T.d_multiply.g T.d_multiply.F.kp T.d_multiply.b .nil pass0 (pa_cons (pv 8) (pa_cons (pe_ix ix_tup (pe_dget hu1 (pv 2) (pe_op op_or (pv 3) (pe_op op_shl pe_int (pv 5))) (fun _ _ => rfl)) pe_int (fun _ _ => rfl)) pa_nil))) pa_nil))))
      (pss_one (ps_if (PW.pt (pw_or (pt_cmpR op_isN (pv 4) pe_non (nomark _)) (pw_or1 (pt_cmpR op_gt (pe_ix ix_tup (pe_call (ok_subtract T) (hr.mono (by decide)) (by rfl) T.d_subtract.g T.d_subtract.F.kp T.d_subtract.b .nil pass0 (pa_cons (pv 9) (pa_cons (pe_ix ix_tup (pv 4) pe_int (fun _ _ => rfl)) pa_nil))) pe_int (fun _ _ => rfl)) pe_int (nomark _))))) (pss_one (ps_set (i := 4) sc_best_by_sets.nd rfl (Or.inl rfl) (pe_tup (pa_cons (pv 9) (pa_cons (pv 5) pa_nil))))) pss_nil)))))
      (pss_one (ps_asg (pv 4) (pg_sub (pv 2) (pv 3) (set_dict hu1)))))))
      (pss_one (ps_ret (pv 2)))))), ?_⟩
    have l8 := ok.most
    have ml : 2 ^ F.length ≤ 2 ^ 8 := Nat.pow_le_pow_right (by decide) l8
    have m256 : 2 ^ F.length ≤ 256 := ml
    have mp : 1 ≤ 2 ^ F.length := Nat.one_le_two_pow
    obtain ⟨m, hm⟩ : ∃ m, m = 2 ^ F.length - 1 := ⟨_, rfl⟩
    rw [← hm] at k
    refine n_seq ?_
    refine s_asg (v := .int (m : Nat)) (ev_is (ev_sub (ev_op ev_c (ev_lenT rfl hu) (rv_I ⟨by omega, by rw [List.length_map]; omega, by decide⟩)) ev_c) ?_) fun H1 e1 => ?_
    · rw [List.length_map, Int.toNat_natCast, Int.one_mul, hm]
      congr 1
      rw [Int.natCast_sub mp]
      simp
    dsimp only
    refine n_seq ?_
    intro f nf
    have nfH : H f = none := none_ex e1 nf
    refine ⟨_, rfl, by show 2 ≤ sizeLine; decide, fun t ft => ?_⟩
    have nft : f ≠ t := fun z => by rw [← z, upd_same] at ft; cases ft
    refine ⟨by rw [upd_ne nft]; exact upd_same, [(.inl (m : Nat), .ref t)], rfl, by show 1 ≤ 15; decide, ?_⟩
    have Z0 : Ex H1 (upd (upd (upd H1 f (.dK [])) t (.tup [.ref T.a_ZERO, .non])) f (.dK (mergeK [] [(.inl ((m : Nat) : Int), .ref t)]))) := Ex.mut ((Ex.new nf).trans (Ex.new ft)) nf
    have hf0 : (upd (upd (upd H1 f (.dK [])) t (.tup [.ref T.a_ZERO, .non])) f (.dK (mergeK [] [(.inl ((m : Nat) : Int), .ref t)]))) f = some (.dK [(.inl ((m : Nat) : Int), .ref t)]) := upd_same
    have ht0 : SqT K (upd (upd (upd H1 f (.dK [])) t (.tup [.ref T.a_ZERO, .non])) f (.dK (mergeK [] [(.inl ((m : Nat) : Int), .ref t)]))) t [.ref T.a_ZERO, .non] := SqT.of (by rw [upd_ne nft.symm]; exact upd_same)
    generalize (upd (upd (upd H1 f (.dK [])) t (.tup [.ref T.a_ZERO, .non])) f (.dK (mergeK [] [(.inl ((m : Nat) : Int), .ref t)]))) = G0 at Z0 hf0 ht0
    have T0 : Tbl K F G0 [(.inl ((m : Nat) : Int), .ref t)] m m := fun d a b => by
      have : d = m := by omega
      subst this
      exact ⟨.ref t, valV_pos rfl, t, _, 0, none, rfl, ht0, ⟨_, rfl, .inr T.k_ZERO, by decide, by decide⟩, hm ▸ Best.every F⟩
    dsimp only
    refine n_seq ?_
    refine ⟨_, rfl, (m : Nat), rfl, by omega, by omega, by omega, by omega, ?_⟩
    refine for_rangeC (fun i σ G => Ex H1 G ∧ ∃ y3 y4 y5 y6 y7 y8 y9 kvs, σ = [some u, some (.int (m : Nat)), some (.ref f), y3, y4, y5, y6, y7, y8, y9] ∧ G f = some (.dK kvs) ∧ kvs.length ≤ i + 1 ∧ i ≤ m ∧ Tbl K F G kvs (m - i) m) ⟨Z0, none, none, none, none, none, none, none, _, rfl, hf0, Nat.le_refl _, Nat.zero_le _, T0⟩ ?_ ?_
    · rintro i σ G hi ⟨ex, y3, y4, y5, y6, y7, y8, y9, kvs, rfl, hk, kl, im, tb⟩
      have him : i < m := by omega
      obtain ⟨d, hd⟩ : ∃ d, d = m - 1 - i := ⟨_, rfl⟩
      have dm : d < m := by omega
      have ed : (0 : Int) + ((((m : Nat) : Int) - 0).toNat : Nat) - 1 + (i : Nat) * (-1) = ((d : Nat) : Int) := by omega
      rw [ed]
      have tb' : Tbl K F G kvs (d + 1) m := fun x a b => tb x (by omega) b
      have d2 : d < 2 ^ F.length := by omega
      refine n_name ?_
      dsimp only
      refine n_seq ?_
      refine n_c ?_
      dsimp only
      refine n_seq ?_
      have huG := Dq.ex (e1.trans ex) _ _ hu
      refine ⟨_, rfl, _, rfl, p, u, F, d, rfl, huG, ok, fun l G1 e2 nl hl => ?_⟩
      refine ⟨l, rfl, ⟨_, SqL.of hl⟩, ?_⟩
      have hk1 := e2 _ _ hk
      have tb1 := tb'.ex e2
      have hu1' := Dq.ex e2 _ _ huG
      have tbB : ∀ j, okD F d j = true → ∃ o, Best F (addD d j) (bestQ F (addD d j)) o := fun j hj => by
        obtain ⟨v, _, t', x, q, o, _, _, _, hb⟩ := tb1 (addD d j) (add_gt (okD_bit hj)) (by have := add_lt d2 (okD_lt hj); omega)
        exact ⟨o, by rw [← best_q hb]; exact hb⟩
      refine for_list (K := K) (a := l) (xs := intsV (opens F d F.length)) (fun j σ G => ∃ b4 y5 y6 y7 y8 y9, σ = [some u, some (.int (m : Nat)), some (.ref f), some (.int (d : Nat)), some b4, y5, y6, y7, y8, y9] ∧ Ex G1 G ∧ BestSt K F d (opens F d F.length) j b4 G) ⟨_, _, _, _, _, _, rfl, Ex.refl _, .inl ⟨rfl, rfl⟩⟩ (fun j σ G _ h => by
        obtain ⟨_, _, _, _, _, _, _, e, _⟩ := h
        exact SqL.of (e _ _ hl)) ?_ ?_
      · rintro j x σ G hx ⟨b4, y5, y6, y7, y8, y9, rfl, e3, bs⟩
        obtain ⟨n, hn, rfl⟩ := intsV_at hx
        have nok : okD F d n = true := mem_opens.mp (List.mem_of_getElem? hn)
        have nl' := okD_lt nok
        have huJ := Dq.ex e3 _ _ hu1'
        have hkJ := e3 _ _ hk1
        have tbJ := tb1.ex e3
        obtain ⟨o, hb⟩ := tbB n nok
        refine n_name ?_
        dsimp only
        refine n_seq ?_
        obtain ⟨a, xs, eu, hS, hA⟩ := huJ.seq
        have il : n < xs.length := by rw [hA.len, List.length_map]; exact nl'
        have hxn := List.getElem?_eq_getElem il
        obtain ⟨t2, ht2, qt⟩ := hA.at_ hxn
        obtain ⟨b, x0, x1, eb, hb2, q0, q1⟩ := qt.t3
        refine ⟨_, rfl, _, rfl, a, xs, (n : Int), _, eu, rfl, hS, atI_nat hxn, ?_⟩
        rw [eb]
        refine ⟨b, _, rfl, hb2, rfl, _, _, rfl, _, _, rfl, _, _, rfl, rfl, ?_⟩
        dsimp only
        have g0 : Fr K 40 (payF F n) x0 G := by
          rw [payF_at ht2]
          exact q0.frq (ok.pay t2 (List.mem_of_getElem? ht2))
        have g1 : Fr K 10 (facF F n) x1 G := by
          rw [facF_at ht2]
          exact q1.frq (ok.fac t2 (List.mem_of_getElem? ht2))
        refine n_seq ?_
        refine s_asgP (ep_2 (K := K) (n := 470) (ep_var rfl g0) (ep_2 (n := 429) (ep_var rfl g1) (ep_tab (F := F) ok rfl rfl rfl (by omega) hkJ tbJ (add_gt (okD_bit nok)) (by have := add_lt d2 nl'; omega)) trivial (by omega) rfl) trivial (by omega) rfl) fun w9 G2 e4 h9 => ?_
        dsimp only
        rw [show payF F n + facF F n * bestQ F (addD d n) = valF F d n from rfl] at h9
        rcases bs with ⟨rfl, rfl⟩ | ⟨t', x', i', rfl, hS', hf', hi', hmost⟩
        · refine s_if (b := true) (et_is (et_or (a := true) (b := true) (fun H1 e1 Q' k' => ⟨_, rfl, rfl, _, rfl, k' H1 (Ex.refl _)⟩) fun z => nomatch z) rfl) (fun _ G3 e5 => ?_) (fun z => nomatch z)
          refine ⟨_, rfl, _, rfl, by show 2 ≤ sizeLine; decide, fun t5 ft5 => ?_⟩
          dsimp only
          have x5 := Ex.new (o := .tup [w9, .int (n : Nat)]) ft5
          refine ⟨_, _, _, _, _, _, rfl, ((e3.trans e4).trans e5).trans x5, .inr ⟨t5, w9, n, rfl, SqT.of upd_same, h9.ex (e5.trans x5), ?_, fun kk hkk => ?_⟩⟩
          · rw [take_snoc hn]; simp
          · rw [take_snoc hn] at hkk
            simp only [List.take_zero, List.nil_append, List.mem_singleton] at hkk
            rw [hkk]
            exact Rat.le_refl
        · have hS2 := ex_t e4 hS'
          have hf2 := hf'.ex e4
          refine s_if (b := decide (0 < (valF F d n - valF F d i').num)) (et_is (et_or (a := false) (b := decide (0 < (valF F d n - valF F d i').num)) (fun H1 e1 Q' k' => ⟨_, rfl, rfl, _, rfl, k' H1 (Ex.refl _)⟩) fun _ => et_test (ev_op (ev_0 (ep_2 (K := K) (b := 470) (c := 470) (n := 941) (ep_var rfl h9) (fun H1 e1 Q' k' => ⟨_, rfl, t', _, 0, x', rfl, rfl, ex_t e1 hS2, rfl, k' x' H1 (Ex.refl _) (hf2.ex e1)⟩) trivial (by omega) rfl)) ev_c rv_I0)) rfl) (fun hc G3 e5 => ?_) (fun hc G3 e5 => ?_)
          · have lt := (num_pos_iff _).mp (of_decide_eq_true hc)
            refine ⟨_, rfl, _, rfl, by show 2 ≤ sizeLine; decide, fun t5 ft5 => ?_⟩
            dsimp only
            have x5 := Ex.new (o := .tup [w9, .int (n : Nat)]) ft5
            refine ⟨_, _, _, _, _, _, rfl, ((e3.trans e4).trans e5).trans x5, .inr ⟨t5, w9, n, rfl, SqT.of upd_same, h9.ex (e5.trans x5), ?_, fun kk hkk => ?_⟩⟩
            · rw [take_snoc hn]; simp
            · rw [take_snoc hn] at hkk
              rcases List.mem_append.mp hkk with h | h
              · have := hmost kk h
                grind
              · rw [List.mem_singleton.mp h]
                exact Rat.le_refl
          · have lt : ¬ 0 < valF F d n - valF F d i' := fun z => (of_decide_eq_false hc) ((num_pos_iff _).mpr z)
            refine n_next ?_
            refine ⟨_, _, _, _, _, _, rfl, (e3.trans e4).trans e5, .inr ⟨t', x', i', rfl, ex_t e5 hS2, hf2.ex e5, ?_, fun kk hkk => ?_⟩⟩
            · rw [take_snoc hn]
              exact List.mem_append_left _ hi'
            · rw [take_snoc hn] at hkk
              rcases List.mem_append.mp hkk with h | h
              · exact hmost kk h
              · rw [List.mem_singleton.mp h]
                grind
      · rintro σ G ⟨b4, y5, y6, y7, y8, y9, rfl, e3, bs⟩
        rw [intsV_len] at bs
        have hkJ := e3 _ _ hk1
        have tbJ := tb1.ex e3
        obtain ⟨i0, hi0⟩ := open_one ok.lt d2 (by omega)
        have os0 : 0 < (opens F d F.length).length := List.length_pos_of_mem (mem_opens.mpr hi0)
        rcases bs with ⟨e0, _⟩ | ⟨t', x', i', rfl, hS', hf', hi', hmost⟩
        · omega
        rw [List.take_of_length_le (Nat.le_refl _)] at hi' hmost
        have iok := mem_opens.mp hi'
        obtain ⟨o, hb⟩ := tbB i' iok
        have bd : Best F d (valF F d i') (some i') := Best.step ok.nnf (fun j hj => by
          obtain ⟨o', hb'⟩ := tbB j hj
          exact ⟨_, o', hb', hmost j (mem_opens.mpr hj)⟩) iok hb rfl
        refine ⟨_, rfl, _, rfl, _, rfl, f, _, rfl, DPut.k (k := .inl ((d : Nat) : Int)) hkJ (small1000 (by omega)), ?_⟩
        dsimp only
        have up : ExB f G (upd G f (.dK (putK kvs (.inl ((d : Nat) : Int)) (.ref t')))) := ExB.upd (ExB.refl f G)
        have hfn : H1 f = none := nf
        refine ⟨Ex.mut ((ex.trans e2).trans e3) hfn, _, _, _, _, _, _, _, _, rfl, upd_same, by have := length_putK kvs (.inl ((d : Nat) : Int)) (.ref t'); omega, by omega, fun d' a b => ?_⟩
        rw [valV_put]
        by_cases c : d' = d
        · subst c
          rw [if_pos rfl]
          exact ⟨_, rfl, t', x', _, some i', rfl, sqt_tb (tupd_k hkJ) up hS', (hf'.tb (tupd_k hkJ) up), bd⟩
        · rw [if_neg (fun z => c (by have := Sum.inl.inj z; omega))]
          obtain ⟨v, h1, h2⟩ := tbJ d' (by omega) b
          exact ⟨v, h1, h2.tb (tupd_k hkJ) up⟩
    · rintro σ G ⟨ex, y3, y4, y5, y6, y7, y8, y9, kvs, rfl, hk, kl, im, tb⟩
      have e0 : (((m : Nat) : Int) - 0).toNat = m := by omega
      rw [e0, Nat.sub_self] at tb
      exact ⟨_, rfl, k f kvs G (e1.trans ex) nfH hk tb⟩
end
/-! ### the best order; orders judged -/
theorem bor_shl (d i : Nat) : ∀ {σ : L2.St} {H : Hp} {j k : Nat}, σ[j]? = some (some (.int (d : Nat))) → σ[k]? = some (some (.int (i : Nat))) → i ≤ 8 → Ev (tOp (rI0 fun i j => V.int (Builtin.bitOr i j)) (tVar j) (tOp (rI CPow fun i j => V.int (i * 2 ^ j.toNat)) (tC (V.int 1)) (tVar k))) σ H (.int ((addD d i : Nat) : Int)) := fun h3 h5 i8 =>
  ev_is (ev_op (ev_var h3) (ev_op ev_c (ev_var h5) (rv_I ⟨by omega, by omega, by decide⟩)) rv_I0) (congrArg V.int (bor_int d i))
section
variable {P : Program} {w : World} {K : PySem.W.Frag} {mg : Str → Option Value} {base : Heap}
def spRunB (K : PySem.W.Frag) : Sp := fun vs H Q _ => ∃ (p : Addr) (u : V) (F : List Fk), vs = [u] ∧ Dq K p H u (fsD F) ∧ FOk F ∧
  ∀ t x l ord H', Ex H H' → SqT K H' t [x, .ref l] → Fr K 470 (worthF F ord) x H' → H l = none → l ≠ sysModules → H' l = some (.lst (intsV ord)) → Full F 0 ord → (∀ l', Full F 0 l' → worthF F l' ≤ worthF F ord) → Q (.ref t) H'
/-- the way so far -/
structure Way (F : List Fk) (pre : List Nat) (d : Nat) : Prop where
  go : ∀ l, Full F d l → Full F 0 (pre ++ l)
  bits : d < 2 ^ F.length
  worth : ∀ q o, Best F d q o → worthF F pre + prodF F pre * q = bestQ F 0
  len : pre.length = cntD d F.length
theorem Way.nil (F : List Fk) : Way F [] 0 where
  go := fun l h => h
  bits := Nat.two_pow_pos _
  worth := fun q o h => by
    show 0 + 1 * q = _
    rw [best_q h]
    grind
  len := (cnt_zero _).symm
theorem Way.next {F : List Fk} {pre : List Nat} {d i : Nat} {q : Rat} (nn : ∀ j, 0 ≤ facF F j) (h : Way F pre d) (hb : Best F d q (some i)) : Way F (pre ++ [i]) (addD d i) where
  go := fun l hl => by
    rw [List.append_assoc]
    exact h.go _ (full_cons.mpr ⟨(hb.next nn).1, hl⟩)
  bits := add_lt h.bits (okD_lt (hb.next nn).1)
  worth := fun q' o h' => by
    rw [worth_snoc, prod_snoc, ← h.worth q _ hb, (hb.next nn).2 q' o h']
    grind
  len := by rw [List.length_append, okD_cnt (hb.next nn).1, h.len]; rfl
theorem Ex.mutB {H G : Hp} {l : Addr} {o : HO} (h : H l = none) (e : ExB l (upd H l o) G) : Ex H G := fun b u hb => by
  have n : b ≠ l := fun z => by rw [z, h] at hb; cases hb
  exact e b u n (by rw [upd_ne n]; exact hb)
theorem ep_at {K : PySem.W.Frag} {F : List Fk} {σ : L2.St} {G : Hp} {f : Addr} {d hi i j : Nat} {kvs : List (Key × V)} {n : Int} {Q : VK} (h2 : σ[i]? = some (some (.ref f))) (h3 : σ[j]? = some (some (.int (d : Nat)))) (hk : G f = some (.dK kvs)) (ht : Tbl K F G kvs 0 hi) (h : d ≤ hi)
    (k : ∀ t x q o, SqT K G t [x, optV o] → Fr K 470 q x G → Best F d q o → rIxT K (.ref t) (.int n) G Q) : tOp (rIxT K) (tDGet (tVar i) (tVar j)) (tC (.int n)) σ G Q := by
  obtain ⟨v, hv, t, x, q, o, rfl, hS, hf, hb⟩ := ht d (Nat.zero_le _) h
  have g := DGet.k (k := .inl ((d : Nat) : Int)) hk
  rw [hv] at g
  exact ⟨_, h2, _, h3, f, .ref t, rfl, g, k t x q o hS hf hb⟩
theorem ok_best_run (T : Txt K mg) : FnOk P w K mg base CX0 4 T.d_best_run.a T.d_best_run.fd ["forest"] (spRunB K) := by
  refine T.d_best_run.F.ok sc_best_run (fun vs H Q E h => ?_) (fun cdv A outer s H vs Q E hr h => ?_)
  · obtain ⟨p, u, F, rfl, _⟩ := h
    rfl
  · obtain ⟨p, u, F, rfl, hu, ok, k⟩ := h
    have hu1 := hu_of hr
    refine ⟨_, (pss_cons (ps_set (i := 1) sc_best_run.nd rfl (Or.inl rfl) (pe_call (ok_best_by_sets T) (hr.mono (by decide)) (by rfl) T.d_best_by_sets.g T.d_best_by_sets.F.kp T.d_best_by_sets.b .nil pass0 (pa_cons (pv 0) pa_nil)))
      (pss_cons (ps_set (i := 2) sc_best_run.nd rfl (Or.inl rfl) (pe_lstN pa_nil))
      (pss_cons (ps_set (i := 3) sc_best_run.nd rfl (Or.inl rfl) pe_int)
      (pss_cons (ps_while PassesOwn.never (pt_cmpR op_notN (pe_ix ix_tup (pe_dget hu1 (pv 1) (pv 3) (fun _ _ => rfl)) pe_int (fun _ _ => rfl)) pe_non (nomark _)) (pss_cons (ps_set (i := 4) sc_best_run.nd rfl (Or.inl rfl) (pe_ix ix_tup (pe_dget hu1 (pv 1) (pv 3) (fun _ _ => rfl)) pe_int (fun _ _ => rfl)))
      (pss_cons (ps_expr (pe_bm PySem.F.plainAttrs_list PySem.F.slot_list_append PySem.F.type_list_append mt_append (pv 2) (pa_cons (pv 4) pa_nil)))
      (pss_one (ps_set (i := 3) sc_best_run.nd rfl (Or.inl rfl) (pe_op op_or (pv 3) (pe_op op_shl pe_int (pv 4))))))))
      (pss_one (ps_ret (pe_tup (pa_cons (pe_ix ix_tup (pe_dget hu1 (pv 1) pe_int (fun _ _ => rfl)) pe_int (fun _ _ => rfl)) (pa_cons (pv 2) pa_nil))))))))), ?_⟩
    refine n_seq ?_
    refine ⟨_, rfl, p, u, F, rfl, hu, ok, fun f kvs H1 e1 nf hk tb => ?_⟩
    dsimp only
    refine n_seq ?_
    refine ⟨by show 0 ≤ sizeLine; decide, fun l fl lm => ?_⟩
    dsimp only
    have nl : H l = none := none_ex e1 fl
    have x1 := Ex.new (o := .lst []) fl
    have hk1 := x1 _ _ hk
    have tb1 := tb.ex x1
    have nfl : f ≠ l := ne_of_none hk fl
    refine n_seq ?_
    refine n_c ?_
    dsimp only
    refine n_seq ?_
    have mp : 1 ≤ 2 ^ F.length := Nat.one_le_two_pow
    have l8 := ok.most
    have stay : ∀ {G : Hp}, ExB l (upd H1 l (.lst [])) G → ∀ {zs : List V}, G l = some (.lst zs) → G f = some (.dK kvs) ∧ Tbl K F G kvs 0 (2 ^ F.length - 1) := fun e _ _ => by
      refine ⟨e _ _ nfl hk1, fun d a b => ?_⟩
      obtain ⟨v, h1, h2⟩ := tb1 d a b
      exact ⟨v, h1, h2.tb (tupd_l upd_same) e⟩
    refine while_by (fun σ G => ∃ d pre y4, σ = [some u, some (.ref f), some (.ref l), some (.int ((d : Nat) : Int)), y4] ∧ ExB l (upd H1 l (.lst [])) G ∧ G l = some (.lst (intsV pre)) ∧ Way F pre d)
      (fun σ _ => match σ[3]? with
        | some (some (V.int m)) => 256 - m.toNat
        | _ => 0) ⟨0, [], none, rfl, ExB.refl _ _, upd_same, Way.nil F⟩ ?_ ?_
    · rintro σ G ⟨d, pre, y4, rfl, eb, hl, wy⟩
      obtain ⟨hkG, tbG⟩ := stay eb hl
      have dl := wy.bits
      have ml : 2 ^ F.length ≤ 256 := Nat.pow_le_pow_right (by decide) l8
      refine ep_at (n := 1) rfl rfl hkG tbG (by omega) fun t x q o hS hf hb => ⟨t, _, 1, optV o, rfl, rfl, hS, rfl, rfl, _, rfl, ?_⟩
      have c2 : cntD d F.length ≤ F.length := cnt_le _ _
      cases o with
      | some i =>
        obtain ⟨iok, _⟩ := hb.next ok.nnf
        have il := okD_lt iok
        refine iteT ?_
        refine n_seq ?_
        refine ep_at (n := 1) rfl rfl hkG tbG (by omega) fun t x q o hS hf hb2 => ⟨t, _, 1, optV o, rfl, rfl, hS, rfl, ?_⟩
        cases o with
        | none =>
          exfalso
          obtain ⟨_, f0⟩ := hb2.stop
          have h2 := okD_cnt iok
          have h3 := cnt_le (addD d i) F.length
          have h1 := f0.2
          simp at h1
          omega
        | some i2 =>
        obtain ⟨iok2, _⟩ := hb2.next ok.nnf
        have il2 := okD_lt iok2
        refine n_name ?_
        dsimp only
        refine n_seq ?_
        refine s_app hl (ev_var rfl) (ev_var rfl) (by rw [intsV_len]; have := wy.len; omega) fun H2 e2 => ?_
        refine s_asg (bor_shl d i2 rfl rfl (by omega)) fun H3 e3 => ?_
        dsimp only
        have gt := add_gt (okD_bit iok2)
        refine ⟨⟨addD d i2, pre ++ [i2], _, rfl, (eb.trans (Ex.b e2)).upd.trans (Ex.b e3), ?_, wy.next ok.nnf hb2⟩, ?_⟩
        · refine e3 _ _ ?_
          rw [upd_same]
          unfold intsV
          rw [List.map_append]
          rfl
        · show 256 - (((addD d i2 : Nat) : Int)).toNat < 256 - ((d : Nat) : Int).toNat
          omega
      | none =>
        obtain ⟨rfl, f0⟩ := hb.stop
        refine iteF ?_
        dsimp only
        have full := wy.go [] f0
        rw [List.append_nil] at full
        have we := wy.worth _ _ hb
        have we2 : worthF F pre = bestQ F 0 := by grind
        obtain ⟨v0, hv0, t0, x0, q0, o0, rfl, hS0, hf0, hb0⟩ := tbG 0 (Nat.zero_le _) (Nat.zero_le _)
        have g0 := DGet.k (k := .inl ((0 : Nat) : Int)) hkG
        rw [hv0] at g0
        refine ⟨_, rfl, f, .ref t0, rfl, g0, t0, _, 0, x0, rfl, rfl, hS0, rfl, ?_⟩
        refine ⟨_, rfl, by show 2 ≤ sizeLine; decide, fun t5 ft5 => ?_⟩
        have x5 := Ex.new (o := .tup [x0, .ref l]) ft5
        have eH : Ex H G := (e1.trans (Ex.mutB fl eb))
        have q0e := best_q hb0
        refine k t5 x0 l pre _ (eH.trans x5) (SqT.of upd_same) ?_ nl lm (x5 _ _ hl) full fun l' h' => ?_
        · rw [we2, ← q0e]
          exact hf0.ex x5
        · rw [we2, ← q0e]
          exact hb0.most l' h'
    · rintro σ G Q Q' hq h
      obtain ⟨v, hv, h⟩ := h
      obtain ⟨y, hy, h⟩ := h
      obtain ⟨a, b, h1, h2, a', xs, n', z, h3, h4, h5, h6, h7, b', h8, h9⟩ := h
      exact ⟨v, hv, y, hy, a, b, h1, h2, a', xs, n', z, h3, h4, h5, h6, h7, b', h8, hq _ _ h9⟩
end
/-! ### forests, judged -/
theorem notF {b : Bool} (h : (!b) = true) : b = false := by cases b <;> first | rfl | cases h
theorem notT {b : Bool} (h : (!b) = false) : b = true := by cases b <;> first | rfl | cases h
def nbB (d : PyData) (c : Int) : Bool := isWh d && (decide (0 ≤ ival d) && decide (ival d < c))
def spNBd (K : PySem.W.Frag) : Sp := fun vs H Q _ => ∃ (p : Addr) (v : V) (d : PyData) (c : Int), vs = [v, .int c] ∧ Dq K p H v d ∧ ∀ H', Ex H H' → Q (.bl (nbB d c)) H'
theorem ev_nbd {K : PySem.W.Frag} {p : Addr} {H : Hp} {v : V} {d : PyData} {σ : L2.St} {E : XK} {te tc : TE} {c : Int} (he : Ev te σ H v) (hd : Dq K p H v d) (hc : Ev tc σ H (.int c)) : Ev (tCall (spNBd K) [] E (tCons te (tCons tc tNil))) σ H (.bl (nbB d c)) := fun H1 e1 Q k =>
  he H1 e1 _ fun H2 e2 => hc H2 (e1.trans e2) _ fun H3 e3 => ⟨p, v, d, c, rfl, Dq.ex ((e1.trans e2).trans e3) _ _ hd, fun H4 e4 => k H4 ((e2.trans e3).trans e4)⟩
theorem posZ_frd {q : Rat} (h : 0 ≤ q) : posZ (frd q) = true := by
  unfold posZ
  rw [frB_frd, frQ_frd, Bool.true_and]
  exact decide_eq_true (Rat.num_nonneg.mpr h)
def spTask (K : PySem.W.Frag) : Sp := fun vs H Q _ => ∃ (p : Addr) (v : V) (i : Nat) (t : Fk), vs = [v, .int (i : Nat)] ∧ Dq K p H v (tkD t) ∧ (∀ q, t.par = some q → q < i) ∧ 0 ≤ t.fac ∧ ∀ H', Ex H H' → Q (.bl true) H'
def spFor (K : PySem.W.Frag) (Ts : List Addr) (r : V) : Sp := fun vs H Q _ => ∃ (p : Addr) (v : V) (F : List Fk), vs = [v] ∧ Dq K p H v (fsD F) ∧ FOk F ∧ TBs Ts H ∧ ∀ H', ExT H H' → TBs Ts H' → Q r H'
theorem FOk.task {F : List Fk} (ok : FOk F) {i : Nat} {t : Fk} (h : F[i]? = some t) : (∀ q, t.par = some q → q < i) ∧ 0 ≤ t.fac := ⟨fun q hq => ok.lt i q (by rw [parF_at h]; exact hq), ok.nn t (List.mem_of_getElem? h)⟩
theorem rd_tasks {K : PySem.W.Frag} {p a : Addr} {xs : List V} {F : List Fk} {E : XK} {Q : Bool → Hp → Prop} (ok : FOk F) : ∀ (m i : Nat) (H : Hp), i + m = xs.length → SqT K H a xs → DqAll K p H xs (F.map tkD) → (∀ H', Ex H H' → Q true H') →
    rdAllI (gTup K 2 (gCons (gName 1) (gCons (gName 2) gNil))) (tCall (spTask K) [] E (tCons (tVar 2) (tCons (tVar 1) tNil))) (IteT K a) 3 m i H Q
  | 0, i, H, e, hS, _, k => ⟨⟨xs, hS, by omega⟩, k H (Ex.refl H)⟩
  | m + 1, i, H, e, hS, hA, k => by
    have il : i < xs.length := by omega
    have ei := List.getElem?_eq_getElem il
    refine ⟨⟨xs, _, hS, ei⟩, ?_⟩
    rintro x H1 ⟨T0, y, rfl, hT, rfl, hy⟩ σ hl hz
    have hy' := hy xs hS
    obtain ⟨t, ht, qt⟩ := hA.at_ hy'
    match σ, hl, hz with
    | [s0, s1, s2], _, hz =>
      simp only [List.getElem?_cons_zero, Option.some.injEq] at hz
      subst hz
      have x1 := Ex.new (o := .tup [.int (i : Nat), y]) hT
      refine ⟨T0, _, rfl, SqT.of upd_same, rfl, _, _, rfl, _, _, rfl, rfl, ?_⟩
      refine ⟨rfl, rfl, y, rfl, _, rfl, p, y, i, t, rfl, Dq.ex x1 _ _ qt, (ok.task ht).1, (ok.task ht).2, fun H2 e2 => ⟨true, rfl, fun _ => ?_, fun z => nomatch z⟩⟩
      have x2 := x1.trans e2
      exact rd_tasks ok m (i + 1) H2 (by omega) (ex_t x2 hS) (DqAll.ex x2 _ _ hA) fun H' e' => k H' (x2.trans e')
section
variable {P : Program} {w : World} {K : PySem.W.Frag} {mg : Str → Option Value} {base : Heap}
theorem ok_is_number_below (T : Txt K mg) : FnOk P w K mg base CX0 2 T.d_is_number_below.a T.d_is_number_below.fd ["value", "count"] (spNBd K) := by
  refine T.d_is_number_below.F.ok sc_is_number_below (fun vs H Q E h => ?_) (fun cdv A outer s H vs Q E hr h => ?_)
  · obtain ⟨p, v, d, c, rfl, _⟩ := h
    rfl
  · obtain ⟨p, v, d, c, rfl, hd, k⟩ := h
    refine ⟨_, (pss_one (ps_ret (pe_and (pe_call (ok_is_whole T) (hr.mono (by decide)) (by rfl) T.d_is_whole.g T.d_is_whole.F.kp T.d_is_whole.b .nil pass0 (pa_cons (pv 0) pa_nil)) (pe_one (pe_chain op_le op_lt pe_int (pv 0) (pv 1)))))), ?_⟩
    refine s_ret (ev_andV (a := isWh d) (b := decide (0 ≤ ival d) && decide (ival d < c)) (ev_isD (ev_var rfl) hd trivial) fun hb => ?_) fun H1 e => k H1 e
    obtain ⟨rfl, _⟩ := hd.ival hb
    exact ev_chain ev_c (ev_var rfl) (ev_var rfl) (fun H => rv_I0) fun H => rv_I0
theorem ok_is_task (T : Txt K mg) : FnOk P w K mg base CX0 4 T.d_is_task.a T.d_is_task.fd ["value", "number"] (spTask K) := by
  refine T.d_is_task.F.ok sc_is_task (fun vs H Q E h => ?_) (fun cdv A outer s H vs Q E hr h => ?_)
  · obtain ⟨p, v, i, t, rfl, _⟩ := h
    rfl
  · obtain ⟨p, v, i, t, rfl, hd, lt, nn, k⟩ := h
    refine ⟨_, (pss_cons (ps_if (PW.pt (pw_or (pt_not (pt_val (pe_callB call_isi (by rfl) T.n_isinstance (by decide +kernel) (pa_cons (pv 0) (pa_cons (pe_bltn (v := .ty "tuple") (by rfl) T.n_tuple (by decide +kernel) rfl) pa_nil))))) (pw_or1 (pt_cmpR op_ne (pe_callB call_len_seq (by rfl) T.n_len (by decide +kernel) (pa_cons (pv 0) pa_nil)) pe_int (nomark _))))) (pss_one (ps_ret pe_bl)) pss_nil)
      (pss_cons (ps_asg (pv 0) (pg_tup (by rfl) (pgs_cons (pg_name (i := 2) sc_is_task.nd rfl (Or.inl rfl)) (pgs_cons (pg_name (i := 3) sc_is_task.nd rfl (Or.inl rfl)) (pgs_cons (pg_name (i := 4) sc_is_task.nd rfl (Or.inl rfl)) pgs_nil)))))
      (pss_cons (ps_if (PW.pt (pw_and (pt_cmpR op_notN (pv 2) pe_non (nomark _)) (pw_and1 (pt_not (pt_val (pe_call (ok_is_number_below T) (hr.mono (by decide)) (by rfl) T.d_is_number_below.g T.d_is_number_below.F.kp T.d_is_number_below.b .nil pass0 (pa_cons (pv 2) (pa_cons (pv 1) pa_nil)))))))) (pss_one (ps_ret pe_bl)) pss_nil)
      (pss_one (ps_ret (pe_and (pe_call (ok_is_fraction T) (hr.mono (by decide)) (by rfl) T.d_is_fraction.g T.d_is_fraction.F.kp T.d_is_fraction.b .nil pass0 (pa_cons (pv 3) pa_nil)) (pe_one (pe_call (ok_is_from_zero T) (hr.mono (by decide)) (by rfl) T.d_is_from_zero.g T.d_is_from_zero.F.kp T.d_is_from_zero.b .nil pass0 (pa_cons (pv 4) pa_nil))))))))), ?_⟩
    refine s_if (b := false) (et_is (et_or (et_is (et_not (et_B (ev_isi (b := true) rfl hd rfl))) rfl) fun _ => et_is (et_test (ev_op (ev_lenT rfl hd) ev_c (rv_ne rfl))) rfl) rfl) (fun z => nomatch z) fun _ H1 e1 => ?_
    obtain ⟨a, y, z, rfl, hS, hy, hz⟩ := (Dq.ex e1 _ _ hd).t3
    refine n_next ?_
    dsimp only
    refine n_seq ?_
    refine ⟨_, rfl, a, [optV t.par, y, z], rfl, hS, rfl, _, _, rfl, _, _, rfl, _, _, rfl, rfl, ?_⟩
    dsimp only
    have fin : ∀ {G : Hp}, Ex H1 G → ∀ {σ : L2.St}, σ[3]? = some (some y) → σ[4]? = some (some z) → tRet (tAndV (tCall (spIsD K Any frB) [] E0 (tCons (tVar 3) tNil)) (tCall (spIsD K Any posZ) [] E0 (tCons (tVar 4) tNil))) { nx := fun _ H' => Q .non H', rt := Q } σ G := fun {G} e {σ} h3 h4 => by
      refine s_ret (v := .bl true) (ev_is (ev_andV (ev_isD (ev_var h3) (Dq.ex e _ _ hy) trivial) fun _ => ev_isD (ev_var h4) (Dq.ex e _ _ hz) trivial) ?_) fun H2 e2 => k H2 ((e1.trans e).trans e2)
      rw [frB_frd, posZ_frd nn]
      rfl
    cases hp : t.par with
    | none =>
      refine ⟨_, rfl, rfl, _, rfl, ?_⟩
      refine iteF ?_
      exact fin (Ex.refl _) rfl rfl
    | some n =>
      have lt' := lt n hp
      refine ⟨_, rfl, rfl, _, rfl, ?_⟩
      refine iteT ?_
      refine ⟨_, rfl, _, rfl, p, _, .int (n : Nat), _, rfl, .int _, fun H2 e2 => ⟨_, rfl, ?_⟩⟩
      have nb : nbB (.int (n : Nat)) (i : Nat) = true := by
        show (true && (decide ((0 : Int) ≤ n) && decide ((n : Int) < i))) = true
        rw [decide_eq_true (by omega), decide_eq_true (by omega)]
        rfl
      rw [nb]
      refine iteF ?_
      exact fin e2 rfl rfl
theorem ok_is_forest (T : Txt K mg) (tb : GxR.TabB base mg T.c_is_forest T.P_is_forest) : FnOk P w K mg base CX0 6 T.d_is_forest.a T.d_is_forest.fd ["value"] (spFor K [T.P_is_forest] (.bl true)) := by
  refine okC T.d_is_forest.F T.h_is_forest sc_is_forest (fun vs H Q E h => ?_) (fun A outer s H vs Q E hr h => ?_)
  · obtain ⟨p, v, F, rfl, _⟩ := h
    rfl
  · obtain ⟨p, v, F, rfl, hd, ok, ht, k⟩ := h
    refine ⟨_, (pss_cons (ps_if (PW.pt (pw_or (pt_not (pt_val (pe_callB call_isi (by rfl) T.n_isinstance (by decide +kernel) (pa_cons (pv 0) (pa_cons (pe_bltn (v := .ty "tuple") (by rfl) T.n_tuple (by decide +kernel) rfl) pa_nil))))) (pw_or1 (pt_not (pt_chain op_le op_le pe_int (pe_callB call_len_seq (by rfl) T.n_len (by decide +kernel) (pa_cons (pv 0) pa_nil)) (pe_glob (v := .int 8) rfl T.c_MOST_TASKS ⟨_, rfl⟩)))))) (pss_one (ps_ret pe_bl)) pss_nil)
      (pss_one (ps_ret (pe_allI (xs := ["number", "entry"]) hr (by rfl) T.n_all tb rfl ⟨rfl, rfl, by decide, rfl, by decide⟩ (pi_enumT (by rfl) T.n_enumerate (pa_cons (pv 0) pa_nil)) (fun _ _ _ _ _ ec => pg_two ec (by decide +kernel) (by decide +kernel) (by decide +kernel)) (fun _ _ _ _ _ _ hr => (pe_call (ok_is_task T) (hr.mono (by decide)) (by rfl) T.d_is_task.g T.d_is_task.F.kp T.d_is_task.b .nil pass0 (pa_cons (pv 2) (pa_cons (pv 1) pa_nil)))) (fun _ => rfl))))), ?_⟩
    have l1 := ok.one
    have l8 := ok.most
    have ll : (F.map tkD).length = F.length := List.length_map ..
    have c0 : (decide ((1 : Int) ≤ ((F.map tkD).length : Int)) && decide (((F.map tkD).length : Int) ≤ 8)) = true := by
      rw [decide_eq_true (by omega), decide_eq_true (by omega)]
      rfl
    refine s_if (b := false) (et_is (et_or (a := false) (et_is (et_not (et_B (ev_isi (b := true) rfl hd rfl))) rfl) fun _ => et_not (et_test (ev_is (ev_chain ev_c (ev_lenT (i := 0) rfl hd) ev_c (fun H => rv_I0) fun H => rv_I0) (by rw [c0])))) rfl) (fun z => nomatch z) fun _ H1 e1 => ?_
    obtain ⟨a, xs, rfl, hS, hA⟩ := (Dq.ex e1 _ _ hd).seq
    have ht1 := ht.ex e1
    refine n_next ?_
    dsimp only
    refine ⟨.ref a, rfl, a, xs, rfl, hS, ht1 _ (by simp), fun H2 tb => ⟨xs.length, ?_⟩⟩
    have e2 := Tabd.t (ht1 _ (by simp)) tb
    exact rd_tasks ok xs.length 0 H2 (by omega) (e2.st hS) (DqAll.xt e2 _ _ hA) fun H3 e3 => k H3 (((Ex.t e1).trans e2).trans (Ex.t e3)) ((ht1.tb tb).ex e3)
theorem ok_require_forest (T : Txt K mg) (tb : GxR.TabB base mg T.c_is_forest T.P_is_forest) : FnOk P w K mg base CX0 7 T.d_require_forest.a T.d_require_forest.fd ["value"] (spFor K [T.P_is_forest] .non) := by
  refine T.d_require_forest.F.ok sc_require_forest (fun vs H Q E h => ?_) (fun cdv A outer s H vs Q E hr h => ?_)
  · obtain ⟨p, v, F, rfl, _⟩ := h
    rfl
  · obtain ⟨p, v, F, rfl, hd, ok, hT, k⟩ := h
    refine ⟨_, (pss_one (ps_if (pt_not (pt_val (pe_call (ok_is_forest T tb) (hr.mono (by decide)) (by rfl) T.d_is_forest.g T.d_is_forest.F.kp T.d_is_forest.b .nil pass0 (pa_cons (pv 0) pa_nil)))) (pss_one ps_never) pss_nil)), ?_⟩
    refine ⟨v, rfl, p, v, F, rfl, hd, ok, hT, fun H1 eb ht => ⟨true, rfl, ?_⟩⟩
    refine iteF ?_
    exact n_next (k H1 eb ht)
end
/-! ### orders judged -/
def isLst : PyData → Bool
  | .list _ => true
  | _ => false
theorem kit_lst (d : PyData) : kitB (tyName d) "list" = some (isLst d) := by cases d <;> (simp only [tyName, isLst]; decide +kernel)
def seqDs (F : List Fk) : List Nat → List PyData → Bool
  | _, [] => true
  | told, d :: ds => nbB d (F.length : Int) && (okL F told (ival d).toNat && seqDs F (told ++ [(ival d).toNat]) ds)
def seqB (F : List Fk) : PyData → Bool
  | .list ds => decide (ds.length = F.length) && seqDs F [] ds
  | _ => false
def intsD (ns : List Nat) : List PyData := ns.map fun (n : Nat) => .int n
theorem seqDs_ints (F : List Fk) : ∀ (ns told : List Nat), seqDs F told (intsD ns) = seqL F told ns
  | [], _ => rfl
  | n :: ns, told => by
    show (nbB (.int n) (F.length : Int) && (okL F told ((n : Int)).toNat && seqDs F (told ++ [((n : Int)).toNat]) (intsD ns))) = (okL F told n && seqL F (told ++ [n]) ns)
    rw [Int.toNat_natCast, seqDs_ints F ns]
    by_cases h : n < F.length
    · have : nbB (.int n) (F.length : Int) = true := by
        show (true && (decide ((0 : Int) ≤ n) && decide ((n : Int) < F.length))) = true
        rw [decide_eq_true (by omega), decide_eq_true (by omega)]
        rfl
      rw [this, Bool.true_and]
    · have : okL F told n = false := by
        unfold okL
        rw [decide_eq_false h]
        rfl
      rw [this]
      simp
theorem seqB_ints (F : List Fk) (ns : List Nat) : seqB F (.list (intsD ns)) = (decide (ns.length = F.length) && seqL F [] ns) := by
  show (decide ((intsD ns).length = F.length) && seqDs F [] (intsD ns)) = _
  rw [seqDs_ints]
  unfold intsD
  rw [List.length_map]
theorem seqB_no {F : List Fk} {d : PyData} (h : isLst d = false) : seqB F d = false := by
  cases d <;> first | rfl | (simp [isLst] at h)
theorem inV_ints (n : Nat) : ∀ ns : List Nat, inV (.int ((n : Nat) : Int)) (intsV ns) = decide (n ∈ ns)
  | [] => rfl
  | m :: ns => by
    have ih := inV_ints n ns
    unfold inV intsV at ih ⊢
    rw [List.map_cons, List.any_cons, ih, Bool.eq_iff_iff, Bool.or_eq_true, decide_eq_true_iff, decide_eq_true_iff, List.mem_cons]
    refine or_congr ?_ Iff.rfl
    show decide (((m : Nat) : Int) = ((n : Nat) : Int)) = true ↔ n = m
    rw [decide_eq_true_iff]
    omega
theorem flat_ints (ns : List Nat) : (intsV ns).all flatV = true := by
  unfold intsV
  rw [List.all_eq_true]
  intro x hx
  obtain ⟨n, _, rfl⟩ := List.mem_map.mp hx
  rfl
def parsV (F : List Fk) : List V := F.map fun t => optV t.par
section
variable {P : Program} {w : World} {K : PySem.W.Frag} {mg : Str → Option Value} {base : Heap}
def spSeq (K : PySem.W.Frag) : Sp := fun vs H Q _ => ∃ (p a : Addr) (v : V) (F : List Fk) (d : PyData), vs = [.ref a, v] ∧ SqL K H a (parsV F) ∧ Dq K p H v d ∧ F.length ≤ 8 ∧ ∀ H', Ex H H' → Q (.bl (seqB F d)) H'
theorem ok_is_sequence (T : Txt K mg) : FnOk P w K mg base CX0 3 T.d_is_sequence.a T.d_is_sequence.fd ["parents", "value"] (spSeq K) := by
  refine T.d_is_sequence.F.ok sc_is_sequence (fun vs H Q E h => ?_) (fun cdv A outer s H vs Q E hr h => ?_)
  · obtain ⟨p, a, v, F, d, rfl, _⟩ := h
    rfl
  · obtain ⟨p, a, v, F, d, rfl, hS, hd, l8, k⟩ := h
    refine ⟨_, (pss_cons (ps_if (PW.pt (pw_or (pt_not (pt_val (pe_callB call_isi (by rfl) T.n_isinstance (by decide +kernel) (pa_cons (pv 1) (pa_cons (pe_bltn (v := .ty "list") (by rfl) T.n_list (by decide +kernel) rfl) pa_nil))))) (pw_or1 (pt_cmpR op_ne (pe_callB call_len_seq (by rfl) T.n_len (by decide +kernel) (pa_cons (pv 1) pa_nil)) (pe_callB call_len_seq (by rfl) T.n_len (by decide +kernel) (pa_cons (pv 0) pa_nil)) (nomark _))))) (pss_one (ps_ret pe_bl)) pss_nil)
      (pss_cons (ps_set (i := 2) sc_is_sequence.nd rfl (Or.inl rfl) (pe_lst pa_nil))
      (pss_cons (ps_for PassesOwn.never rfl (pi_list (pv 1)) (pg_name (i := 3) sc_is_sequence.nd rfl (Or.inl rfl)) (pss_cons (ps_if (PW.pt (pw_or (pt_not (pt_val (pe_call (ok_is_number_below T) (hr.mono (by decide)) (by rfl) T.d_is_number_below.g T.d_is_number_below.F.kp T.d_is_number_below.b .nil pass0 (pa_cons (pv 3) (pa_cons (pe_callB call_len_seq (by rfl) T.n_len (by decide +kernel) (pa_cons (pv 0) pa_nil)) pa_nil))))) (pw_or1 (pt_cmpR op_in_seq (pv 3) (pv 2) (by rfl))))) (pss_one (ps_ret pe_bl)) pss_nil)
      (pss_cons (ps_if (PW.pt (pw_and (pt_cmpR op_notN (pe_ix ix_list (pv 0) (pv 3) (fun _ _ => rfl)) pe_non (nomark _)) (pw_and1 (pt_cmpR op_notIn_seq (pe_ix ix_list (pv 0) (pv 3) (fun _ _ => rfl)) (pv 2) (by rfl))))) (pss_one (ps_ret pe_bl)) pss_nil)
      (pss_one (ps_expr (pe_bm PySem.F.plainAttrs_list PySem.F.slot_list_append PySem.F.type_list_append mt_append (pv 2) (pa_cons (pv 3) pa_nil)))))))
      (pss_one (ps_ret pe_bl))))), ?_⟩
    have no : seqB F d = false → ∀ H', Ex H H' → Q (.bl false) H' := fun e H' e' => by
      have := k H' e'
      rwa [e] at this
    have pl : (parsV F).length = F.length := List.length_map ..
    cases hi : isLst d with
    | false => exact s_if (b := true) (et_is (et_or (a := true) (b := true) (et_is (et_not (et_B (ev_isi rfl hd (kit_lst d)))) (by rw [hi]; rfl)) fun z => nomatch z) rfl) (fun _ H1 e1 => no (seqB_no hi) H1 e1) (fun z => nomatch z)
    | true =>
    obtain ⟨ds, rfl⟩ : ∃ ds, d = .list ds := by
      cases d with
      | list ds => exact ⟨ds, rfl⟩
      | _ => cases hi
    obtain ⟨b, xs, rfl, hb, hA⟩ : ∃ b xs, v = .ref b ∧ H b = some (.lst xs) ∧ DqAll K p H xs ds := by
      cases hd with
      | lst _ _ h hs => exact ⟨_, _, rfl, h, hs⟩
    have xl := hA.len
    have lenV : Ev (tCB (fun xs H_1 Q => ∃ p ys, xs = [V.ref p] ∧ (SqL K H_1 p ys ∨ SqT K H_1 p ys) ∧ Q (V.int ys.length) H_1) (tCons (tVar 1) tNil)) [some (.ref a), some (.ref b), none, none] H (.int (ds.length : Int)) := fun H1 e Q k => ⟨_, rfl, b, xs, rfl, .inl (SqL.of (e _ _ hb)), by rw [xl]; exact k H1 (Ex.refl _)⟩
    have lenP : Ev (tCB (fun xs H_1 Q => ∃ p ys, xs = [V.ref p] ∧ (SqL K H_1 p ys ∨ SqT K H_1 p ys) ∧ Q (V.int ys.length) H_1) (tCons (tVar 0) tNil)) [some (.ref a), some (.ref b), none, none] H (.int (F.length : Int)) := fun H1 e Q k => ⟨_, rfl, a, _, rfl, .inl (ex_l e hS), by rw [pl]; exact k H1 (Ex.refl _)⟩
    have c0 : (!decide (V.int (ds.length : Int) = V.int (F.length : Int))) = !decide (ds.length = F.length) := by
      congr 1
      rw [Bool.eq_iff_iff, decide_eq_true_iff, decide_eq_true_iff, V.int.injEq]
      omega
    refine s_if (b := !decide (ds.length = F.length)) (et_is (et_or (a := false) (et_is (et_not (et_B (ev_isi (b := true) rfl hd (kit_lst _)))) rfl) fun _ => et_is (et_test (ev_op lenV lenP (rv_ne rfl))) c0) rfl) (fun hc H1 e1 => ?_) (fun hc H1 e1 => ?_)
    · refine no ?_ H1 e1
      show (_ && _) = _
      rw [notF hc, Bool.false_and]
    have hl := notT hc
    have e : seqB F (.list ds) = seqDs F [] ds := by
      show (_ && _) = _
      rw [hl, Bool.true_and]
    rw [e] at k no
    refine n_next ?_
    refine n_seq ?_
    refine ⟨by show 0 ≤ sizeLine; decide, fun l fl => ?_⟩
    dsimp only
    have nfl : H l = none := none_ex e1 fl
    refine n_seq ?_
    refine ⟨_, rfl, b, rfl, ⟨_, SqL.of ((Ex.new fl) _ _ (e1 _ _ hb))⟩, ?_⟩
    refine for_list (K := K) (a := b) (xs := xs) (fun i σ G => ∃ told y3, σ = [some (.ref a), some (.ref b), some (.ref l), y3] ∧ Ex H G ∧ G l = some (.lst (intsV told)) ∧ told.length = i ∧ seqDs F [] ds = seqDs F told (ds.drop i)) ⟨[], none, rfl, e1.trans (Ex.new fl), upd_same, rfl, rfl⟩ (fun i σ G _ h => by
      obtain ⟨_, _, _, e, _⟩ := h
      exact SqL.of (e _ _ hb)) ?_ ?_
    · rintro i x σ G hx ⟨told, y3, rfl, ex, hT, tl, hq⟩
      have il : i < xs.length := (List.getElem?_eq_some_iff.mp hx).1
      obtain ⟨di, hdi⟩ : ∃ di, ds[i]? = some di := ⟨_, List.getElem?_eq_getElem (by omega)⟩
      obtain ⟨x', hx', qx⟩ := (DqAll.ex ex _ _ hA).get hdi
      rw [hx] at hx'
      cases hx'
      have dd : ds.drop i = di :: ds.drop (i + 1) := by
        rw [List.getElem?_eq_some_iff] at hdi
        obtain ⟨h1, rfl⟩ := hdi
        exact List.drop_eq_getElem_cons h1
      rw [dd] at hq
      have hq' : seqDs F [] ds = (nbB di (F.length : Int) && (okL F told (ival di).toNat && seqDs F (told ++ [(ival di).toNat]) (ds.drop (i + 1)))) := hq
      refine n_name ?_
      dsimp only
      have lenG : Ev (tCB (fun xs H_1 Q => ∃ p ys, xs = [V.ref p] ∧ (SqL K H_1 p ys ∨ SqT K H_1 p ys) ∧ Q (V.int ys.length) H_1) (tCons (tVar 0) tNil)) [some (.ref a), some (.ref b), some (.ref l), some x] G (.int (F.length : Int)) := fun H1 e Q k => ⟨_, rfl, a, _, rfl, .inl (ex_l (ex.trans e) hS), by rw [pl]; exact k H1 (Ex.refl _)⟩
      cases nb : nbB di (F.length : Int) with
      | false =>
        refine n_seq ?_
        refine s_if (b := true) (et_is (et_or (a := true) (b := true) (et_is (et_not (et_B (ev_nbd (ev_var rfl) qx lenG))) (by rw [nb]; rfl)) fun z => nomatch z) rfl) (fun _ H2 e2 => ?_) (fun z => nomatch z)
        exact no (by rw [hq', nb, Bool.false_and]) H2 (ex.trans e2)
      | true =>
      obtain ⟨j, rfl, jl⟩ : ∃ j : Nat, di = .int j ∧ j < F.length := by
        unfold nbB at nb
        simp only [Bool.and_eq_true, decide_eq_true_eq] at nb
        obtain ⟨h1, h2, h3⟩ := nb
        have h4 := (qx.ival h1).2
        exact ⟨(ival di).toNat, by rw [Int.toNat_of_nonneg h2]; exact h4, by omega⟩
      cases qx
      rw [nb, Bool.true_and, show (ival (.int (j : Nat))).toNat = j from rfl] at hq'
      obtain ⟨t, ht⟩ : ∃ t, F[j]? = some t := ⟨_, List.getElem?_eq_getElem jl⟩
      have hpar : (parsV F)[j]? = some (optV t.par) := by
        unfold parsV
        rw [List.getElem?_map, ht]
        rfl
      have okj : okL F told j = (!decide (j ∈ told) && upL t.par told) := by
        unfold okL
        rw [decide_eq_true jl, Bool.true_and, parF_at ht]
      rw [okj] at hq'
      refine n_seq ?_
      refine s_if (b := decide (j ∈ told)) (et_is (et_or (a := false) (b := decide (j ∈ told)) (et_is (et_not (et_B (ev_nbd (p := p) (ev_var rfl) (.int _) lenG))) (by rw [nb]; rfl)) fun _ => fun H1 e Q' k' => by
        refine ⟨_, rfl, _, rfl, l, intsV told, rfl, .inl (SqL.of (e _ _ hT)), rfl, flat_ints told, _, rfl, ?_⟩
        rw [if_neg (by decide), inV_ints]
        exact k' H1 (Ex.refl _)) rfl) (fun hc H2 e2 => ?_) (fun hc H2 e2 => ?_)
      · exact no (by rw [hq', hc]; rfl) H2 (ex.trans e2)
      rw [hc] at hq'
      have hq2 : seqDs F [] ds = (upL t.par told && seqDs F (told ++ [j]) (ds.drop (i + 1))) := hq'
      refine n_next ?_
      dsimp only
      refine n_seq ?_
      have ixp : ∀ {H1 : Hp}, Ex H2 H1 → ∀ {Q' : VK}, Q' (optV t.par) H1 → tOp (rIxL K) (tVar 0) (tVar 3) [some (.ref a), some (.ref b), some (.ref l), some (.int (j : Nat))] H1 Q' := fun e Q' q => ⟨_, rfl, _, rfl, a, _, (j : Nat), _, rfl, rfl, ex_l ((ex.trans e2).trans e) hS, atI_nat hpar, q⟩
      have tst : EvT (tAnd (tTest (tOp (fun x y H Q => y = V.non ∧ Q (V.bl !decide (x = V.non)) H) (tOp (rIxL K) (tVar 0) (tVar 3)) (tC V.non))) (tTest (tOp (rIn K true) (tOp (rIxL K) (tVar 0) (tVar 3)) (tVar 2)))) [some (.ref a), some (.ref b), some (.ref l), some (.int (j : Nat))] H2 (!upL t.par told) := by
        cases hp : t.par with
        | none =>
          refine et_is (et_and (a := false) (b := false) (fun H1 e Q' k' => ?_) fun z => nomatch z) rfl
          refine ixp e ?_
          rw [hp]
          exact ⟨rfl, _, rfl, k' H1 (Ex.refl _)⟩
        | some q =>
          refine et_is (et_and (a := true) (b := !decide (q ∈ told)) (fun H1 e Q' k' => ?_) fun _ => fun H1 e Q' k' => ?_) rfl
          · refine ixp e ?_
            rw [hp]
            exact ⟨rfl, _, rfl, k' H1 (Ex.refl _)⟩
          · refine ixp e ?_
            rw [hp]
            refine ⟨_, rfl, l, intsV told, rfl, .inl (SqL.of (e _ _ (e2 _ _ hT))), rfl, flat_ints told, _, rfl, ?_⟩
            rw [if_pos rfl, show optV (some q) = .int ((q : Nat) : Int) from rfl, inV_ints]
            exact k' H1 (Ex.refl _)
      refine s_if tst (fun hu H3 e3 => ?_) (fun hu H3 e3 => ?_)
      · exact no (by rw [hq2, notF hu]; rfl) H3 ((ex.trans e2).trans e3)
      refine n_next ?_
      have hT3 := e3 _ _ (e2 _ _ hT)
      refine s_app hT3 (ev_var rfl) (ev_var rfl) (by have := of_decide_eq_true hl; rw [intsV_len]; omega) fun H4 e4 => ?_
      refine ⟨told ++ [j], _, rfl, Ex.mut (((ex.trans e2).trans e3).trans e4) nfl, ?_, by rw [List.length_append, tl]; rfl, by rw [hq2, notT hu, Bool.true_and]⟩
      rw [upd_same]
      unfold intsV
      rw [List.map_append]
      rfl
    · rintro σ G ⟨told, y3, rfl, ex, hT, tl, hq⟩
      rw [xl, List.drop_length] at hq
      have := k G ex
      rw [hq] at this
      exact this
end
/-! ### the interface -/
section
variable {P : Program} {w : World} {K : PySem.W.Frag} {mg : Str → Option Value} {base : Heap}
def spPars (K : PySem.W.Frag) : Sp := fun vs H Q _ => ∃ (p : Addr) (u : V) (F : List Fk), vs = [u] ∧ Dq K p H u (fsD F) ∧ F.length ≤ 8 ∧ ∀ D H', Ex H H' → H' D = some (.lst (parsV F)) → Q (.ref D) H'
theorem ok_parents_of (T : Txt K mg) : FnOk P w K mg base CX0 1 T.d_parents_of.a T.d_parents_of.fd ["forest"] (spPars K) := by
  refine T.d_parents_of.F.ok sc_parents_of (fun vs H Q E h => ?_) (fun cdv A outer s H vs Q E hr h => ?_)
  · obtain ⟨p, u, F, rfl, _⟩ := h
    rfl
  · obtain ⟨p, u, F, rfl, hu, l8, k⟩ := h
    refine ⟨_, (pss_one (ps_ret (pe_lc (own := [("parent", 1), ("_", 2)]) (g := gTup K 3 (gCons (gName 1) (gCons (gName 2) (gCons (gName 2) gNil)))) (tt := tYes) rfl sc_parents_of.nd (pi_tup (pv 0)) (blkOk_by (own := [("parent", 1), ("_", 2)]) (N := n_parents_of) (sc := defScope s_parents_of) (by decide +kernel)) (fun _ _ _ _ _ => (pg_tup rfl (pgs_cons (pg_name (i := 1) sc_parents_of.nd rfl (Or.inl rfl)) (pgs_cons (pg_name (i := 2) sc_parents_of.nd rfl (Or.inl rfl)) (pgs_cons (pg_name (i := 2) sc_parents_of.nd rfl (Or.inl rfl)) pgs_nil))))) (fun _ _ _ _ _ => pts_nil) (fun _ _ _ _ _ => (pv 1))))), ?_⟩
    obtain ⟨a, xs, rfl, hS, hA⟩ := hu.seq
    have xl : xs.length = F.length := by rw [hA.len, List.length_map]
    refine ⟨_, rfl, a, rfl, ⟨_, hS⟩, fun D nD => ?_⟩
    refine lc_tup (K := K) (a := a) (xs := xs) (fun i G => Ex H G ∧ G D = some (.lst (parsV (F.take i)))) ⟨Ex.new nD, upd_same⟩ (fun i G _ h => ex_t h.1 hS) ?_ ?_
    · rintro i x G hx ⟨ex, hz⟩
      have il : i < xs.length := (List.getElem?_eq_some_iff.mp hx).1
      obtain ⟨t, hti, qt⟩ := (DqAll.ex ex _ _ hA).at_ hx
      obtain ⟨b, x0, x1, rfl, hb, q0, q1⟩ := qt.t3
      refine ⟨b, _, rfl, hb, rfl, _, _, rfl, _, _, rfl, _, _, rfl, rfl, rfl, ?_⟩
      refine yes_of ?_
      rw [if_pos rfl]
      refine ⟨_, rfl, _, hz, small1000 (by unfold parsV; rw [List.length_map, List.length_take]; omega), Ex.mut ex nD, ?_⟩
      rw [upd_same, List.take_succ, hti]
      unfold parsV
      rw [List.map_append]
      rfl
    · rintro G ⟨ex, hz⟩
      rw [xl, List.take_of_length_le (Nat.le_refl _)] at hz
      exact k D G ex hz
def spIsO (K : PySem.W.Frag) (Ts : List Addr) : Sp := fun vs H Q _ => ∃ (p : Addr) (u v : V) (F : List Fk) (e : PyData), vs = [u, v] ∧ Dq K p H u (fsD F) ∧ Dq K p H v e ∧ FOk F ∧ TBs Ts H ∧ ∀ H', ExT H H' → TBs Ts H' → Q (.bl (seqB F e)) H'
theorem ok_is_order (T : Txt K mg) (tb : GxR.TabB base mg T.c_is_forest T.P_is_forest) : FnOk P w K mg base CX0 8 T.d_is_order.a T.d_is_order.fd ["forest", "value"] (spIsO K [T.P_is_forest]) := by
  refine T.d_is_order.F.ok sc_is_order (fun vs H Q E h => ?_) (fun cdv A outer s H vs Q E hr h => ?_)
  · obtain ⟨p, u, v, F, e, rfl, _⟩ := h
    rfl
  · obtain ⟨p, u, v, F, e, rfl, hu, hv, ok, ht, k⟩ := h
    refine ⟨_, (pss_cons (ps_expr (pe_call (ok_require_forest T tb) (hr.mono (by decide)) (by rfl) T.d_require_forest.g T.d_require_forest.F.kp T.d_require_forest.b .nil pass0 (pa_cons (pv 0) pa_nil)))
      (pss_one (ps_ret (pe_call (ok_is_sequence T) (hr.mono (by decide)) (by rfl) T.d_is_sequence.g T.d_is_sequence.F.kp T.d_is_sequence.b .nil pass0 (pa_cons (pe_call (ok_parents_of T) (hr.mono (by decide)) (by rfl) T.d_parents_of.g T.d_parents_of.F.kp T.d_parents_of.b .nil pass0 (pa_cons (pv 0) pa_nil)) (pa_cons (pv 1) pa_nil)))))), ?_⟩
    refine n_seq ?_
    refine ⟨_, rfl, p, u, F, rfl, hu, ok, ht, fun H1 e1 t1 => ?_⟩
    have hu1 := Dq.xt e1 _ _ hu
    have hv1 := Dq.xt e1 _ _ hv
    refine ⟨_, rfl, p, u, F, rfl, hu1, ok.most, fun D H2 e2 hD => ?_⟩
    refine ⟨_, rfl, p, D, v, F, e, rfl, SqL.of hD, Dq.ex e2 _ _ hv1, ok.most, fun H' e' => ?_⟩
    exact k H' (e1.trans (Ex.t (e2.trans e'))) (t1.ex (e2.trans e'))
def spOW (K : PySem.W.Frag) (Ts : List Addr) : Sp := fun vs H Q _ => ∃ (p : Addr) (u : V) (l : Addr) (F : List Fk) (ns : List Nat), vs = [u, .ref l] ∧ Dq K p H u (fsD F) ∧ FOk F ∧ H l = some (.lst (intsV ns)) ∧ l ≠ p ∧ l ≠ sysModules ∧ ns.length = F.length ∧ seqL F [] ns = true ∧ TBs Ts H ∧ ∀ x H', ExT H H' → TBs Ts H' → Fr K 470 (worthF F ns) x H' → Q x H'
theorem ints_dq {K : PySem.W.Frag} {p : Addr} {H : Hp} : ∀ ns : List Nat, DqAll K p H (intsV ns) (intsD ns)
  | [] => .nil
  | n :: ns => .cons (.int _) (ints_dq ns)
theorem ok_order_worth (T : Txt K mg) (tb : GxR.TabB base mg T.c_is_forest T.P_is_forest) : FnOk P w K mg base CX0 9 T.d_order_worth.a T.d_order_worth.fd ["forest", "order"] (spOW K [T.P_is_forest]) := by
  refine T.d_order_worth.F.ok sc_order_worth (fun vs H Q E h => ?_) (fun cdv A outer s H vs Q E hr h => ?_)
  · obtain ⟨p, u, l, F, ns, rfl, _⟩ := h
    rfl
  · obtain ⟨p, u, l, F, ns, rfl, hu, ok, hl, n1, n2, ln, sq, ht, k⟩ := h
    refine ⟨_, (pss_cons (ps_if (pt_not (pt_val (pe_call (ok_is_order T tb) (hr.mono (by decide)) (by rfl) T.d_is_order.g T.d_is_order.F.kp T.d_is_order.b .nil pass0 (pa_cons (pv 0) (pa_cons (pv 1) pa_nil))))) (pss_one ps_never) pss_nil)
      (pss_one (ps_ret (pe_ix ix_tup (pe_call (ok_run_of T) (hr.mono (by decide)) (by rfl) T.d_run_of.g T.d_run_of.F.kp T.d_run_of.b .nil pass0 (pa_cons (pv 0) (pa_cons (pv 1) pa_nil))) pe_int (fun _ _ => rfl))))), ?_⟩
    have qo : Dq K p H (.ref l) (.list (intsD ns)) := .lst n1 n2 hl (ints_dq ns)
    have sb : seqB F (.list (intsD ns)) = true := by
      rw [seqB_ints, sq, ln, decide_eq_true rfl]
      rfl
    refine n_seq ?_
    refine ⟨_, rfl, _, rfl, p, u, _, F, _, rfl, hu, qo, ok, ht, fun H1 e1 t1 => ⟨_, rfl, ?_⟩⟩
    rw [sb]
    refine iteF ?_
    refine n_next ?_
    have hu1 := Dq.xt e1 _ _ hu
    have hl1 := e1.l hl
    have l8 := ok.most
    refine ⟨_, rfl, _, rfl, p, u, l, F, ns, rfl, hu1, ok, SqL.of hl1, seqL_lt F ns [] sq, by omega, fun t x y H2 e2 hS fx fy => ?_⟩
    refine ⟨t, _, 0, x, rfl, rfl, hS, rfl, ?_⟩
    exact k x H2 (e1.trans (Ex.t e2)) (t1.ex e2) (fx.re (fx.bd.mono (by omega)))
def spBW (K : PySem.W.Frag) (Ts : List Addr) : Sp := fun vs H Q _ => ∃ (p : Addr) (u : V) (F : List Fk), vs = [u] ∧ Dq K p H u (fsD F) ∧ FOk F ∧ TBs Ts H ∧ ∀ x ord H', ExT H H' → TBs Ts H' → Fr K 470 (worthF F ord) x H' → Full F 0 ord → (∀ l', Full F 0 l' → worthF F l' ≤ worthF F ord) → Q x H'
theorem ok_best_worth (T : Txt K mg) (tb : GxR.TabB base mg T.c_is_forest T.P_is_forest) : FnOk P w K mg base CX0 8 T.d_best_worth.a T.d_best_worth.fd ["forest"] (spBW K [T.P_is_forest]) := by
  refine T.d_best_worth.F.ok sc_best_worth (fun vs H Q E h => ?_) (fun cdv A outer s H vs Q E hr h => ?_)
  · obtain ⟨p, u, F, rfl, _⟩ := h
    rfl
  · obtain ⟨p, u, F, rfl, hu, ok, ht, k⟩ := h
    refine ⟨_, (pss_cons (ps_expr (pe_call (ok_require_forest T tb) (hr.mono (by decide)) (by rfl) T.d_require_forest.g T.d_require_forest.F.kp T.d_require_forest.b .nil pass0 (pa_cons (pv 0) pa_nil)))
      (pss_one (ps_ret (pe_ix ix_tup (pe_call (ok_best_run T) (hr.mono (by decide)) (by rfl) T.d_best_run.g T.d_best_run.F.kp T.d_best_run.b .nil pass0 (pa_cons (pv 0) pa_nil)) pe_int (fun _ _ => rfl))))), ?_⟩
    refine n_seq ?_
    refine ⟨_, rfl, p, u, F, rfl, hu, ok, ht, fun H1 e1 t1 => ?_⟩
    have hu1 := Dq.xt e1 _ _ hu
    refine ⟨_, rfl, p, u, F, rfl, hu1, ok, fun t x l ord H2 e2 hS fx nl lm hl full most => ?_⟩
    refine ⟨t, _, 0, x, rfl, rfl, hS, rfl, ?_⟩
    exact k x ord H2 (e1.trans (Ex.t e2)) (t1.ex e2) fx full most
def spBO (K : PySem.W.Frag) (Ts : List Addr) : Sp := fun vs H Q _ => ∃ (p : Addr) (u : V) (F : List Fk), vs = [u] ∧ Dq K p H u (fsD F) ∧ FOk F ∧ TBs Ts H ∧ ∀ l ord H', ExT H H' → TBs Ts H' → (∀ a o, H a = some o → (∀ ps, o ≠ HO.tbl ps) → l ≠ a) → l ≠ sysModules → H' l = some (.lst (intsV ord)) → Full F 0 ord → (∀ l', Full F 0 l' → worthF F l' ≤ worthF F ord) → Q (.ref l) H'
theorem ok_best_order (T : Txt K mg) (tb : GxR.TabB base mg T.c_is_forest T.P_is_forest) : FnOk P w K mg base CX0 8 T.d_best_order.a T.d_best_order.fd ["forest"] (spBO K [T.P_is_forest]) := by
  refine T.d_best_order.F.ok sc_best_order (fun vs H Q E h => ?_) (fun cdv A outer s H vs Q E hr h => ?_)
  · obtain ⟨p, u, F, rfl, _⟩ := h
    rfl
  · obtain ⟨p, u, F, rfl, hu, ok, ht, k⟩ := h
    refine ⟨_, (pss_cons (ps_expr (pe_call (ok_require_forest T tb) (hr.mono (by decide)) (by rfl) T.d_require_forest.g T.d_require_forest.F.kp T.d_require_forest.b .nil pass0 (pa_cons (pv 0) pa_nil)))
      (pss_one (ps_ret (pe_ix ix_tup (pe_call (ok_best_run T) (hr.mono (by decide)) (by rfl) T.d_best_run.g T.d_best_run.F.kp T.d_best_run.b .nil pass0 (pa_cons (pv 0) pa_nil)) pe_int (fun _ _ => rfl))))), ?_⟩
    refine n_seq ?_
    refine ⟨_, rfl, p, u, F, rfl, hu, ok, ht, fun H1 e1 t1 => ?_⟩
    have hu1 := Dq.xt e1 _ _ hu
    refine ⟨_, rfl, p, u, F, rfl, hu1, ok, fun t x l ord H2 e2 hS fx nl lm hl full most => ?_⟩
    refine ⟨t, _, 1, .ref l, rfl, rfl, hS, rfl, ?_⟩
    refine k l ord H2 (e1.trans (Ex.t e2)) (t1.ex e2) (fun a o ha no z => ?_) lm hl full most
    subst z
    rw [e1 _ _ no ha] at nl
    cases nl
end
/-! ### the law's own arithmetic -/
section
variable {K : PySem.W.Frag} {σ : L2.St} {H : Hp} {ta tb : TE} {b c n : Nat} {q r : Rat}
def spLowL (K : PySem.W.Frag) : Sp := fun vs H Q _ => ∃ (n d : Int) (b : Nat), vs = [.int n, .int d] ∧ 0 < d ∧ n.natAbs < 2 ^ b ∧ d.natAbs < 2 ^ b ∧ b ≤ 1900 ∧ ∀ z H', Ex H H' → Fr K b (Rat.divInt n d) z H' → Q z H'
def sp2L (K : PySem.W.Frag) (ok : Rat → Prop) (f : Rat → Rat → Rat) : Sp := fun vs H Q _ => ∃ (u v : V) (b c : Nat) (q r : Rat), vs = [u, v] ∧ Fr K b q u H ∧ Fr K c r v H ∧ b + c + 1 ≤ 1900 ∧ ok r ∧
  ∀ z H', Ex H H' → Fr K (b + c + 1) (f q r) z H' → Q z H'
theorem ep_2L {ok : Rat → Prop} {f : Rat → Rat → Rat} {E : XK} (ha : EvP ta σ H (Fr K b q)) (hb : EvP tb σ H (Fr K c r)) (hk : ok r) (hl : b + c + 1 ≤ 1900) (hn : b + c + 1 = n) : EvP (tCall (sp2L K ok f) [] E (tCons ta (tCons tb tNil))) σ H (Fr K n (f q r)) := fun H1 a Q k =>
  ha H1 a _ fun x H2 a2 g => hb H2 (a.trans a2) _ fun y H3 a3 h => ⟨x, y, b, c, q, r, rfl, g.ex a3, h, hl, hk, fun z H' e w => k z H' ((a2.trans a3).trans e) (by subst hn; exact w)⟩
theorem ep_LowL {E : XK} {x y : Int} (ha : Ev ta σ H (.int x)) (hb : Ev tb σ H (.int y)) (hd : 0 < y) (hx : x.natAbs < 2 ^ b) (hy : y.natAbs < 2 ^ b) (hl : b ≤ 1900) (hq : Rat.divInt x y = q) : EvP (tCall (spLowL K) [] E (tCons ta (tCons tb tNil))) σ H (Fr K b q) := fun H1 a Q k =>
  ha H1 a _ fun H2 a2 => hb H2 (a.trans a2) _ fun H3 a3 => ⟨x, y, b, rfl, hd, hx, hy, hl, fun z H' e w => k z H' ((a2.trans a3).trans e) (by subst hq; exact w)⟩
theorem denI_pos (q : Rat) : (0 : Int) < q.den := by
  have := q.den_pos
  omega
end
theorem nat_abs_if (n : Int) : (if n < 0 then -n else n) = ((n.natAbs : Nat) : Int) := by
  by_cases h : n < 0
  · rw [if_pos h]; omega
  · rw [if_neg h]; omega
def AllFr (K : PySem.W.Frag) (b : Nat) (H : Hp) (xs : List V) (qs : List Rat) : Prop := xs.length = qs.length ∧ ∀ (i : Nat) (x : V) (q : Rat), xs[i]? = some x → qs[i]? = some q → Fr K b q x H
theorem AllFr.ex {K : PySem.W.Frag} {b : Nat} {H H' : Hp} {xs : List V} {qs : List Rat} (e : Ex H H') (h : AllFr K b H xs qs) : AllFr K b H' xs qs := ⟨h.1, fun i x q hx hq => (h.2 i x q hx hq).ex e⟩
section
variable {P : Program} {w : World} {K : PySem.W.Frag} {mg : Str → Option Value} {base : Heap}
theorem ok__law_low (T : Txt K mg) : FnOk P w K mg base CX0 1 T.d__law_low.a T.d__law_low.fd ["_law_top", "_law_bottom"] (spLowL K) := by
  refine T.d__law_low.F.ok sc__law_low (fun vs H Q E h => ?_) (fun cdv A outer s H vs Q E hr h => ?_)
  · obtain ⟨n, d, b, rfl, _⟩ := h
    rfl
  · obtain ⟨n, d, b, rfl, hd, hn, hb, hl, k⟩ := h
    refine ⟨_, (pss_cons (ps_par (i := 2) (j := 3) (by rfl) sc__law_low.nd rfl rfl (by decide) rfl rfl (pa_cons (pe_callB call_abs (by rfl) T.n_abs (by decide +kernel) (pa_cons (pv 0) pa_nil)) (pa_cons (pv 1) pa_nil)) (by rfl))
      (pss_cons (ps_while PassesOwn.never (pt_cmpR op_ne (pv 3) pe_int (nomark _)) (pss_one (ps_par (i := 2) (j := 3) (by rfl) sc__law_low.nd rfl rfl (by decide) rfl rfl (pa_cons (pv 3) (pa_cons (pe_op op_mod (pv 2) (pv 3)) pa_nil)) (by rfl))))
      (pss_one (ps_ret (pe_tup (pa_cons (pe_op op_fdivZ (pv 0) (pv 2)) (pa_cons (pe_op op_fdivZ (pv 1) (pv 2)) pa_nil))))))), ?_⟩
    refine n_seq ?_
    refine ⟨_, rfl, n, rfl, _, rfl, _, _, rfl, ?_⟩
    rw [nat_abs_if]
    dsimp only
    have dn : d = ((d.natAbs : Nat) : Int) := by omega
    have hd0 : d ≠ 0 := by omega
    refine n_seq ?_
    refine while_by (fun σ G => G = H ∧ ∃ a c : Nat, σ = [some (.int n), some (.int d), some (.int a), some (.int c)] ∧ Nat.gcd a c = Nat.gcd n.natAbs d.natAbs)
      (fun σ _ => match σ[3]? with
        | some (some (V.int m)) => m.toNat
        | _ => 0) ⟨rfl, n.natAbs, d.natAbs, by rw [← dn]; rfl, rfl⟩ ?_ ?_
    · rintro σ G ⟨rfl, a, c, rfl, hg⟩
      refine ⟨_, rfl, rfl, _, rfl, ?_⟩
      by_cases hc : c = 0
      · subst hc
        refine iteF ?_
        have ha : a = Nat.gcd n.natAbs d.natAbs := gcd_end hg
        subst ha
        dsimp only
        have hG : Nat.gcd n.natAbs d.natAbs ≤ d.natAbs := Nat.gcd_le_right _ (by omega)
        have hp := gcd_pos (n := n) hd0
        have hz : ∀ i : Int, CDivZ i ((Nat.gcd n.natAbs d.natAbs : Nat) : Int) := fun _ => ⟨by omega, by
          have : ((Nat.gcd n.natAbs d.natAbs : Nat) : Int).natAbs = Nat.gcd n.natAbs d.natAbs := by omega
          rw [this]
          exact log_lt (Nat.lt_of_le_of_lt hG hb) (by omega : b ≤ 9000) (by decide)⟩
        have fd : ∀ i : Int, i.fdiv ((Nat.gcd n.natAbs d.natAbs : Nat) : Int) = i / ((Nat.gcd n.natAbs d.natAbs : Nat) : Int) := fun i => Int.fdiv_eq_ediv_of_nonneg i (by omega)
        have e := low_eq n d hd0 1 (by rw [if_neg (by omega)])
        rw [Int.one_mul, Int.one_mul] at e
        exact s_retP (ep_tup (b := b) (ev_fdivZ (ev_var rfl) (ev_var rfl) (hz _)) (ev_fdivZ (ev_var rfl) (ev_var rfl) (hz _)) (by rw [fd]; exact e.1) (by rw [fd]; exact e.2) (bd_divInt hd0 hn hb)) fun z H1 e w => k z H1 e w
      · have ne : (!decide (V.int ((c : Nat) : Int) = V.int 0)) = true := by
          rw [decide_eq_false (fun z => hc (by have := V.int.inj z; omega))]
          rfl
        rw [ne]
        refine iteT ?_
        have hc0 : 0 < (c : Int) := by omega
        refine ⟨_, rfl, _, rfl, _, rfl, a, c, rfl, rfl, hc0, _, _, rfl, ?_⟩
        refine ⟨⟨rfl, c, a % c, ?_, gcd_step hg⟩, ?_⟩
        · rw [Int.natCast_emod]
          rfl
        · show ((a : Int) % (c : Int)).toNat < (c : Int).toNat
          have := Nat.mod_lt a (show c > 0 by omega)
          rw [← Int.natCast_emod]
          omega
    · rintro σ G Q Q' hq ⟨x, h1, h2, b, h4, h5⟩
      exact ⟨x, h1, h2, b, h4, hq _ _ h5⟩
theorem ok__law_add (T : Txt K mg) : FnOk P w K mg base CX0 2 T.d__law_add.a T.d__law_add.fd ["_law_one", "_law_other"] (sp2L K (fun _ => True) fun q r => q + r) := by
  refine T.d__law_add.F.ok sc__law_add (fun vs H Q E h => ?_) (fun cdv A outer s H vs Q E hr h => ?_)
  · obtain ⟨u, v, b, c, q, r, rfl, _⟩ := h
    rfl
  · obtain ⟨u, v, b, c, q, r, rfl, f, g, hl, _, k⟩ := h
    refine ⟨_, (pss_one (ps_ret (pe_call (ok__law_low T) (hr.mono (by decide)) (by rfl) T.d__law_low.g T.d__law_low.F.kp T.d__law_low.b .nil pass0 (pa_cons (pe_op op_add (pe_op op_mulW (pe_ix ix_tup (pv 0) pe_int (fun _ _ => rfl)) (pe_ix ix_tup (pv 1) pe_int (fun _ _ => rfl))) (pe_op op_mulW (pe_ix ix_tup (pv 1) pe_int (fun _ _ => rfl)) (pe_ix ix_tup (pv 0) pe_int (fun _ _ => rfl)))) (pa_cons (pe_op op_mulW (pe_ix ix_tup (pv 0) pe_int (fun _ _ => rfl)) (pe_ix ix_tup (pv 1) pe_int (fun _ _ => rfl))) pa_nil))))), ?_⟩
    have F := @ep_var K (start n__law_add [u, v]) H u b q 0 rfl f
    have G := @ep_var K (start n__law_add [u, v]) H v c r 1 rfl g
    have x := f.bd
    have y := g.bd
    exact s_retP (ep_LowL (b := b + c + 1) (ev_add (ev_mulW (ev_0 F) (ev_1 G) (mulW x.1 (bd_den y) (by omega))) (ev_mulW (ev_0 G) (ev_1 F) (mulW y.1 (bd_den x) (by omega)))) (ev_mulW (ev_1 F) (ev_1 G) (mulW (bd_den x) (bd_den y) (by omega)))
      (Int.mul_pos (denI_pos q) (denI_pos r)) (bn_add (bn_mul x.1 (bd_den y)) (by rw [Nat.add_comm b c]; exact bn_mul y.1 (bd_den x))) (lt_pow_mono (Nat.le_succ _) (bn_mul (bd_den x) (bd_den y))) hl (add_eq q r)) fun z H1 e w => k z H1 e w
theorem ok__law_mul (T : Txt K mg) : FnOk P w K mg base CX0 2 T.d__law_mul.a T.d__law_mul.fd ["_law_one", "_law_other"] (sp2L K (fun _ => True) fun q r => q * r) := by
  refine T.d__law_mul.F.ok sc__law_mul (fun vs H Q E h => ?_) (fun cdv A outer s H vs Q E hr h => ?_)
  · obtain ⟨u, v, b, c, q, r, rfl, _⟩ := h
    rfl
  · obtain ⟨u, v, b, c, q, r, rfl, f, g, hl, _, k⟩ := h
    refine ⟨_, (pss_one (ps_ret (pe_call (ok__law_low T) (hr.mono (by decide)) (by rfl) T.d__law_low.g T.d__law_low.F.kp T.d__law_low.b .nil pass0 (pa_cons (pe_op op_mulW (pe_ix ix_tup (pv 0) pe_int (fun _ _ => rfl)) (pe_ix ix_tup (pv 1) pe_int (fun _ _ => rfl))) (pa_cons (pe_op op_mulW (pe_ix ix_tup (pv 0) pe_int (fun _ _ => rfl)) (pe_ix ix_tup (pv 1) pe_int (fun _ _ => rfl))) pa_nil))))), ?_⟩
    have F := @ep_var K (start n__law_mul [u, v]) H u b q 0 rfl f
    have G := @ep_var K (start n__law_mul [u, v]) H v c r 1 rfl g
    have x := f.bd
    have y := g.bd
    exact s_retP (ep_LowL (b := b + c + 1) (ev_mulW (ev_0 F) (ev_0 G) (mulW x.1 y.1 (by omega))) (ev_mulW (ev_1 F) (ev_1 G) (mulW (bd_den x) (bd_den y) (by omega)))
      (Int.mul_pos (denI_pos q) (denI_pos r)) (lt_pow_mono (Nat.le_succ _) (bn_mul x.1 y.1)) (lt_pow_mono (Nat.le_succ _) (bn_mul (bd_den x) (bd_den y))) hl (mul_eq q r)) fun z H1 e w => k z H1 e w
theorem ok__law_less (T : Txt K mg) : FnOk P w K mg base CX0 1 T.d__law_less.a T.d__law_less.fd ["_law_one", "_law_other"] (spLt K) := by
  refine T.d__law_less.F.ok sc__law_less (fun vs H Q E h => ?_) (fun cdv A outer s H vs Q E hr h => ?_)
  · obtain ⟨u, v, b, c, q, r, rfl, _⟩ := h
    rfl
  · obtain ⟨u, v, b, c, q, r, rfl, f, g, hl, k⟩ := h
    refine ⟨_, (pss_one (ps_ret (pe_cmpR op_lt (pe_op op_mulW (pe_ix ix_tup (pv 0) pe_int (fun _ _ => rfl)) (pe_ix ix_tup (pv 1) pe_int (fun _ _ => rfl))) (pe_op op_mulW (pe_ix ix_tup (pv 1) pe_int (fun _ _ => rfl)) (pe_ix ix_tup (pv 0) pe_int (fun _ _ => rfl))) (nomark _)))), ?_⟩
    have F := @ep_var K (start n__law_less [u, v]) H u b q 0 rfl f
    have G := @ep_var K (start n__law_less [u, v]) H v c r 1 rfl g
    have x := f.bd
    have y := g.bd
    refine s_ret (ev_op (ev_mulW (ev_0 F) (ev_1 G) (mulW x.1 (bd_den y) (by omega))) (ev_mulW (ev_0 G) (ev_1 F) (mulW y.1 (bd_den x) (by omega))) rv_I0) fun H1 e => ?_
    rw [lt_num]
    exact k H1 e
def spMost (K : PySem.W.Frag) : Sp := fun vs H Q _ => ∃ (l : Addr) (xs : List V) (qs : List Rat) (b : Nat), vs = [.ref l] ∧ SqL K H l xs ∧ AllFr K b H xs qs ∧ qs ≠ [] ∧ b ≤ 900 ∧ ∀ z q H', Ex H H' → Fr K b q z H' → q ∈ qs → (∀ r ∈ qs, r ≤ q) → Q z H'
theorem ok__law_most (T : Txt K mg) : FnOk P w K mg base CX0 2 T.d__law_most.a T.d__law_most.fd ["_law_some"] (spMost K) := by
  refine T.d__law_most.F.ok sc__law_most (fun vs H Q E h => ?_) (fun cdv A outer s H vs Q E hr h => ?_)
  · obtain ⟨l, xs, qs, b, rfl, _⟩ := h
    rfl
  · obtain ⟨l, xs, qs, b, rfl, hS, hA, ne, b9, k⟩ := h
    refine ⟨_, (pss_cons (ps_set (i := 1) sc__law_most.nd rfl (Or.inl rfl) (pe_ix ix_list (pv 0) pe_int (fun _ _ => rfl)))
      (pss_cons (ps_for PassesOwn.never rfl (pi_list (pv 0)) (pg_name (i := 2) sc__law_most.nd rfl (Or.inl rfl)) (pss_one (ps_set (i := 1) sc__law_most.nd rfl (Or.inl rfl) (pe_ifExp (pt_val (pe_call (ok__law_less T) (hr.mono (by decide)) (by rfl) T.d__law_less.g T.d__law_less.F.kp T.d__law_less.b .nil pass0 (pa_cons (pv 1) (pa_cons (pv 2) pa_nil)))) (pv 2) (pv 1)))))
      (pss_one (ps_ret (pv 1))))), ?_⟩
    obtain ⟨q0, qr, rfl⟩ : ∃ q0 qr, qs = q0 :: qr := by
      cases qs with
      | nil => exact absurd rfl ne
      | cons q0 qr => exact ⟨q0, qr, rfl⟩
    obtain ⟨x0, xr, rfl⟩ : ∃ x0 xr, xs = x0 :: xr := by
      cases xs with
      | nil => exact nomatch hA.1
      | cons x0 xr => exact ⟨x0, xr, rfl⟩
    have f0 := hA.2 0 x0 q0 rfl rfl
    refine n_seq ?_
    refine ⟨_, rfl, l, _, 0, x0, rfl, rfl, hS, atI_nat (show (x0 :: xr)[0]? = some x0 from rfl), ?_⟩
    dsimp only
    refine n_seq ?_
    refine ⟨_, rfl, l, rfl, ⟨_, hS⟩, ?_⟩
    refine for_list (K := K) (a := l) (xs := x0 :: xr) (fun i σ G => ∃ z y2 q, σ = [some (.ref l), some z, y2] ∧ Ex H G ∧ Fr K b q z G ∧ q ∈ q0 :: qr ∧ ∀ r ∈ (q0 :: qr).take i, r ≤ q) ⟨x0, none, q0, rfl, Ex.refl _, f0, List.mem_cons_self, fun r hr => by simp at hr⟩ (fun i σ G _ h => by
      obtain ⟨_, _, _, _, e, _⟩ := h
      exact ex_l e hS) ?_ ?_
    · rintro i x σ G hx ⟨z, y2, q, rfl, ex, fq, hq, hm⟩
      have il : i < (x0 :: xr).length := (List.getElem?_eq_some_iff.mp hx).1
      obtain ⟨r, hr⟩ : ∃ r, (q0 :: qr)[i]? = some r := ⟨_, List.getElem?_eq_getElem (by rw [← hA.1]; exact il)⟩
      have fr := (hA.2 i x r hx hr).ex ex
      refine n_name ?_
      dsimp only
      refine ⟨_, rfl, _, rfl, z, x, b, b, q, r, rfl, fq, fr, by omega, fun G1 e1 => ⟨_, rfl, ?_⟩⟩
      have ts := take_snoc hr
      by_cases c : q < r
      · rw [decide_eq_true c]
        refine iteT ?_
        refine ⟨_, rfl, x, _, r, rfl, ex.trans e1, fr.ex e1, List.mem_of_getElem? hr, fun s hs => ?_⟩
        rw [ts] at hs
        rcases List.mem_append.mp hs with h | h
        · have := hm s h
          grind
        · rw [List.mem_singleton.mp h]
          exact Rat.le_refl
      · rw [decide_eq_false c]
        refine iteF ?_
        refine ⟨_, rfl, z, _, q, rfl, ex.trans e1, fq.ex e1, hq, fun s hs => ?_⟩
        rw [ts] at hs
        rcases List.mem_append.mp hs with h | h
        · exact hm s h
        · rw [List.mem_singleton.mp h]
          grind
    · rintro σ G ⟨z, y2, q, rfl, ex, fq, hq, hm⟩
      rw [hA.1, List.take_of_length_le (Nat.le_refl _)] at hm
      exact ⟨_, rfl, k z q G ex fq hq hm⟩
end
/-! ### the law's own pays, factors, forests -/
def dPay : List PyData := [.tuple [.int 0, .int 1], .tuple [.int 1, .int 1], .tuple [.int (-1), .int 1], .tuple [.int 4, .int 1], .tuple [.int 1, .int 2], .tuple [.int (-3), .int 2], .tuple [.int 2, .int 3], .tuple [.int (-5), .int 1], .tuple [.int (10 ^ (11 : Int).toNat), .int 7]]
def dFac : List PyData := [.tuple [.int 1, .int 2], .tuple [.int 1, .int 3], .tuple [.int 1, .int 1], .tuple [.int 2, .int 1], .tuple [.int 0, .int 1], .tuple [.int 3, .int 4], .tuple [.int 9, .int 10], .tuple [.int 3, .int 1]]
def bdB (b : Nat) (d : PyData) : Bool := decide ((frQ d).num.natAbs < 2 ^ b) && decide ((frQ d).den < 2 ^ b)
theorem bdB_bd {b : Nat} {d : PyData} (h : bdB b d = true) : Bd b (frQ d) := by
  unfold bdB at h
  simp only [Bool.and_eq_true, decide_eq_true_eq] at h
  exact h
theorem good_pay : ∀ d ∈ dPay, (frB d && bdB 40 d) = true := by decide +kernel
theorem good_fac : ∀ d ∈ dFac, (posZ d && bdB 10 d) = true := by decide +kernel
theorem pos_nn {d : PyData} (h : posZ d = true) : frB d = true ∧ 0 ≤ frQ d := by
  unfold posZ at h
  simp only [Bool.and_eq_true, decide_eq_true_eq] at h
  exact ⟨h.1, Rat.num_nonneg.mp h.2⟩
def tW (n m : Int) : TE := tTup (tCons (tC (.int n)) (tCons (tC (.int m)) tNil))
def tWn (n m : Int) : TE := tTup (tCons (tUn (rU fun i => .int (-i)) (tC (.int n))) (tCons (tC (.int m)) tNil))
section
variable {K : PySem.W.Frag} {p a : Addr} {σ : L2.St} {H : Hp} {N : Nat}
theorem ed_W {n m : Int} : EvD K p (tW n m) σ H (.tuple [.int n, .int m]) := ed_P ed_I ed_I
theorem ed_Wn {n m : Int} : EvD K p (tWn n m) σ H (.tuple [.int (-n), .int m]) := ed_P ed_N ed_I
theorem ev_1011 : Ev (tOp (rI CPow fun i j => .int (i ^ j.toNat)) (tC (.int 10)) (tC (.int 11))) σ H (.int (10 ^ (11 : Int).toNat)) := fun H1 e Q k => ⟨10, 11, rfl, rfl, ⟨by decide, by decide, by decide⟩, k H1 (Ex.refl H1)⟩
theorem rd_pickF {tm : TA} {ds : List PyData} {n : Nat} {Q : VK} (hm : EvDs K p tm σ H ds) (hp : Pen H p a N) (h0 : σ[0]? = some (some (.ref p))) (hn : ds.length = n) (l0 : 0 < n) (l1 : n ≤ 900) (hN : N ≤ 90000) (fr : ∀ d ∈ ds, frB d = true)
    (k : ∀ v d H', d ∈ ds → ExB p H H' → Pen H' p a (N + 1) → Dq K p H' v d → Q v H') : tOp (rIxL K) (tLst tm) (tCall (spDraw K) [] E0 (tCons (tVar 0) (tCons (tC (.int (n : Nat))) tNil))) σ H Q := by
  refine hm H (Ex.refl H) _ fun vs H1 e1 qs => ?_
  have vl := qs.len
  refine ⟨Nat.le_of_lt (small1000 (by omega)), fun l fl => ?_⟩
  have x1 := Ex.new (o := .lst vs) fl
  have hp1 := hp.ex (e1.trans x1)
  obtain ⟨xp, hxp⟩ := (hp.ex e1).hasP
  have nlp : l ≠ p := (ne_of_none hxp fl).symm
  refine ⟨_, h0, p, a, _, N, rfl, hp1, by omega, by omega, by omega, fun r H2 r0 r1 eb hp2 => ?_⟩
  obtain ⟨j, rfl⟩ : ∃ j : Nat, r = j := ⟨r.toNat, by omega⟩
  have hj : j < ds.length := by omega
  obtain ⟨x, hx, qx⟩ := (DqAll.ex x1 _ _ qs).get (List.getElem?_eq_getElem hj)
  refine ⟨l, vs, _, x, rfl, rfl, SqL.of (eb _ _ nlp upd_same), atI_nat hx, ?_⟩
  refine k x _ H2 (List.getElem_mem hj) ((Ex.b (e1.trans x1)).trans eb) hp2 ?_
  have e := frB_iff (fr _ (List.getElem_mem hj))
  rw [e] at qx ⊢
  exact Dq.fl (tupd_l (x1 _ _ hxp)) eb _ _ (flat_frd _) qx
end
/-- a task as it is drawn -/
structure TOk (i : Nat) (t : Fk) : Prop where
  lt : ∀ q, t.par = some q → q < i
  pb : Bd 40 t.pay
  fb : Bd 10 t.fac
  nn : 0 ≤ t.fac
theorem fok_of {F : List Fk} (l1 : 1 ≤ F.length) (l8 : F.length ≤ 8) (h : ∀ i t, F[i]? = some t → TOk i t) : FOk F where
  one := l1
  most := l8
  lt := fun i q hq => by
    unfold parF at hq
    cases ht : F[i]? with
    | none => rw [ht] at hq; cases hq
    | some t => rw [ht] at hq; exact (h i t ht).lt q hq
  pay := fun t ht => by
    obtain ⟨i, hi⟩ := List.getElem?_of_mem ht
    exact (h i t hi).pb
  fac := fun t ht => by
    obtain ⟨i, hi⟩ := List.getElem?_of_mem ht
    exact (h i t hi).fb
  nn := fun t ht => by
    obtain ⟨i, hi⟩ := List.getElem?_of_mem ht
    exact (h i t hi).nn
section
variable {P : Program} {w : World} {K : PySem.W.Frag} {mg : Str → Option Value} {base : Heap}
def spPick (K : PySem.W.Frag) (b : Nat) (f : Rat → Prop) : Sp := fun vs H Q _ => ∃ (p a : Addr) (N : Nat), vs = [.ref p] ∧ Pen H p a N ∧ N ≤ 90000 ∧ ∀ v q H', ExB p H H' → Pen H' p a (N + 1) → Fr K b q v H' → f q → Q v H'
theorem ok__law_pay (T : Txt K mg) : FnOk P w K mg base CX0 3 T.d__law_pay.a T.d__law_pay.fd ["_law_pen_here"] (spPick K 40 fun _ => True) := by
  refine T.d__law_pay.F.ok sc__law_pay (fun vs H Q E h => ?_) (fun cdv A outer s H vs Q E hr h => ?_)
  · obtain ⟨p, a, N, rfl, _⟩ := h
    rfl
  · obtain ⟨p, a, N, rfl, hp, hN, k⟩ := h
    refine ⟨_, (pss_one (ps_ret (pe_ix ix_list (pe_lst (pa_cons (pe_tup (pa_cons pe_int (pa_cons pe_int pa_nil))) (pa_cons (pe_tup (pa_cons pe_int (pa_cons pe_int pa_nil))) (pa_cons (pe_tup (pa_cons (pe_un un_neg pe_int) (pa_cons pe_int pa_nil))) (pa_cons (pe_tup (pa_cons pe_int (pa_cons pe_int pa_nil))) (pa_cons (pe_tup (pa_cons pe_int (pa_cons pe_int pa_nil))) (pa_cons (pe_tup (pa_cons (pe_un un_neg pe_int) (pa_cons pe_int pa_nil))) (pa_cons (pe_tup (pa_cons pe_int (pa_cons pe_int pa_nil))) (pa_cons (pe_tup (pa_cons (pe_un un_neg pe_int) (pa_cons pe_int pa_nil))) (pa_cons (pe_tup (pa_cons (pe_op op_pow pe_int pe_int) (pa_cons pe_int pa_nil))) pa_nil)))))))))) (pe_call (ok__law_draw T) (hr.mono (by decide)) (by rfl) T.d__law_draw.g T.d__law_draw.F.kp T.d__law_draw.b .nil pass0 (pa_cons (pv 0) (pa_cons pe_int pa_nil))) (fun _ _ => rfl)))), ?_⟩
    refine rd_pickF (K := K) (p := p) (n := 9) (ds := dPay) ?_ hp rfl rfl (by decide) (by decide) hN (fun d hd => by
      have := good_pay d hd
      simp only [Bool.and_eq_true] at this
      exact this.1) fun v d H' hd eb hp' q => by
        have := good_pay d hd
        simp only [Bool.and_eq_true] at this
        exact k v _ H' eb hp' (q.fr this.1 (bdB_bd this.2)) trivial
    exact eds_cons ed_W (eds_cons ed_W (eds_cons ed_Wn (eds_cons ed_W (eds_cons ed_W (eds_cons ed_Wn (eds_cons ed_W (eds_cons ed_Wn (eds_cons (ed_P (ed_ev ev_1011 fun _ => .int _) ed_I) eds_nil))))))))
theorem ok__law_factor (T : Txt K mg) : FnOk P w K mg base CX0 3 T.d__law_factor.a T.d__law_factor.fd ["_law_pen_here"] (spPick K 10 fun q => 0 ≤ q) := by
  refine T.d__law_factor.F.ok sc__law_factor (fun vs H Q E h => ?_) (fun cdv A outer s H vs Q E hr h => ?_)
  · obtain ⟨p, a, N, rfl, _⟩ := h
    rfl
  · obtain ⟨p, a, N, rfl, hp, hN, k⟩ := h
    refine ⟨_, (pss_one (ps_ret (pe_ix ix_list (pe_lst (pa_cons (pe_tup (pa_cons pe_int (pa_cons pe_int pa_nil))) (pa_cons (pe_tup (pa_cons pe_int (pa_cons pe_int pa_nil))) (pa_cons (pe_tup (pa_cons pe_int (pa_cons pe_int pa_nil))) (pa_cons (pe_tup (pa_cons pe_int (pa_cons pe_int pa_nil))) (pa_cons (pe_tup (pa_cons pe_int (pa_cons pe_int pa_nil))) (pa_cons (pe_tup (pa_cons pe_int (pa_cons pe_int pa_nil))) (pa_cons (pe_tup (pa_cons pe_int (pa_cons pe_int pa_nil))) (pa_cons (pe_tup (pa_cons pe_int (pa_cons pe_int pa_nil))) pa_nil))))))))) (pe_call (ok__law_draw T) (hr.mono (by decide)) (by rfl) T.d__law_draw.g T.d__law_draw.F.kp T.d__law_draw.b .nil pass0 (pa_cons (pv 0) (pa_cons pe_int pa_nil))) (fun _ _ => rfl)))), ?_⟩
    refine rd_pickF (K := K) (p := p) (n := 8) (ds := dFac) ?_ hp rfl rfl (by decide) (by decide) hN (fun d hd => by
      have := good_fac d hd
      simp only [Bool.and_eq_true] at this
      exact (pos_nn this.1).1) fun v d H' hd eb hp' q => by
        have := good_fac d hd
        simp only [Bool.and_eq_true] at this
        exact k v _ H' eb hp' (q.fr (pos_nn this.1).1 (bdB_bd this.2)) (pos_nn this.1).2
    exact eds_cons ed_W (eds_cons ed_W (eds_cons ed_W (eds_cons ed_W (eds_cons ed_W (eds_cons ed_W (eds_cons ed_W (eds_cons ed_W eds_nil)))))))
def spForestL (K : PySem.W.Frag) : Sp := fun vs H Q _ => ∃ (p a : Addr) (m N : Nat), vs = [.ref p, .int (m : Nat)] ∧ Pen H p a N ∧ 1 ≤ m ∧ m ≤ 8 ∧ N ≤ 80000 ∧ ∀ v F H', ExB p H H' → Pen H' p a (N + 40) → Dq K p H' v (fsD F) → FOk F → F.length ≤ m → Q v H'
theorem ok__law_forest (T : Txt K mg) : FnOk P w K mg base CX0 4 T.d__law_forest.a T.d__law_forest.fd ["_law_pen_here", "_law_most_here"] (spForestL K) := by
  refine T.d__law_forest.F.ok sc__law_forest (fun vs H Q E h => ?_) (fun cdv A outer s H vs Q E hr h => ?_)
  · obtain ⟨p, a, m, N, rfl, _⟩ := h
    rfl
  · obtain ⟨p, a, m, N, rfl, hp, m1, m8, hN, k⟩ := h
    refine ⟨_, (pss_cons (ps_set (i := 2) sc__law_forest.nd rfl (Or.inl rfl) (pe_lst pa_nil))
      (pss_cons (ps_for PassesOwn.never rfl (pi_range1 (by rfl) T.n_range (pa_cons (pe_op op_add pe_int (pe_call (ok__law_draw T) (hr.mono (by decide)) (by rfl) T.d__law_draw.g T.d__law_draw.F.kp T.d__law_draw.b .nil pass0 (pa_cons (pv 0) (pa_cons (pv 1) pa_nil)))) pa_nil)) (pg_name (i := 3) sc__law_forest.nd rfl (Or.inl rfl)) (pss_cons (ps_set (i := 4) sc__law_forest.nd rfl (Or.inl rfl) (pe_call (ok__law_draw T) (hr.mono (by decide)) (by rfl) T.d__law_draw.g T.d__law_draw.F.kp T.d__law_draw.b .nil pass0 (pa_cons (pv 0) (pa_cons pe_int pa_nil))))
      (pss_cons (ps_set (i := 5) sc__law_forest.nd rfl (Or.inl rfl) (pe_ifExp (PW.pt (pw_or (pt_cmpR op_eq (pv 3) pe_int (nomark _)) (pw_or1 (pt_cmpR op_eq (pv 4) pe_int (nomark _))))) pe_non (pe_ix ix_list (pe_lst (pa_cons (pe_op op_sub (pv 3) pe_int) (pa_cons pe_int (pa_cons (pe_call (ok__law_draw T) (hr.mono (by decide)) (by rfl) T.d__law_draw.g T.d__law_draw.F.kp T.d__law_draw.b .nil pass0 (pa_cons (pv 0) (pa_cons (pv 3) pa_nil))) pa_nil)))) (pe_op op_sub (pv 4) pe_int) (fun _ _ => rfl))))
      (pss_one (ps_expr (pe_bm PySem.F.plainAttrs_list PySem.F.slot_list_append PySem.F.type_list_append mt_append (pv 2) (pa_cons (pe_tup (pa_cons (pv 5) (pa_cons (pe_call (ok__law_pay T) (hr.mono (by decide)) (by rfl) T.d__law_pay.g T.d__law_pay.F.kp T.d__law_pay.b .nil pass0 (pa_cons (pv 0) pa_nil)) (pa_cons (pe_call (ok__law_factor T) (hr.mono (by decide)) (by rfl) T.d__law_factor.g T.d__law_factor.F.kp T.d__law_factor.b .nil pass0 (pa_cons (pv 0) pa_nil)) pa_nil)))) pa_nil)))))))
      (pss_one (ps_ret (pe_callTy call_tuple_of (by rfl) T.n_tuple (by decide +kernel) (pa_cons (pv 2) pa_nil)))))), ?_⟩
    refine n_seq ?_
    refine ⟨by show 0 ≤ sizeLine; decide, fun l fl => ?_⟩
    have e0 := Ex.new (o := .lst []) fl
    have hp0 := hp.ex e0
    obtain ⟨xp, hxp⟩ := hp.hasP
    obtain ⟨xa, hxa⟩ := hp.hasC
    have nlp : l ≠ p := (ne_of_none hxp fl).symm
    have nla : l ≠ a := (ne_of_none hxa fl).symm
    dsimp only
    refine n_seq ?_
    refine ⟨.ref p, rfl, .int (m : Nat), rfl, p, a, (m : Nat), N, rfl, hp0, by omega, by omega, by omega, fun r H1 r0 r8 eb1 hp1 => ⟨1, r, rfl, rfl, 1 + r, rfl, by omega, by omega, ?_⟩⟩
    refine for_range (lo := 0) (n := (1 + r).toNat) (fun j σ G => ∃ (zs : List V) (ts : List Fk) (y3 y4 y5 : Option V), σ = [some (.ref p), some (.int (m : Nat)), some (.ref l), y3, y4, y5] ∧ ExB p H G ∧ Pen G p a (N + 1 + 4 * j) ∧ G l = some (.lst zs) ∧ DqAll K p G zs (ts.map tkD) ∧ ts.length = j ∧ (∀ i t, ts[i]? = some t → TOk i t))
      ⟨[], [], none, none, none, rfl, (Ex.b e0).trans eb1, hp1, eb1 _ _ nlp upd_same, .nil, rfl, fun i t z => by simp at z⟩ ?_ ?_
    · rintro j σ G hj ⟨zs, ts, y3, y4, y5, rfl, eb, hpG, hz, qs, tl, oks⟩
      have flT : flatDA (ts.map tkD) = true := flatDA_of fun d hd => by
        obtain ⟨t, _, rfl⟩ := List.mem_map.mp hd
        exact flat_tk t
      have j8 : j < 8 := by omega
      refine n_name ?_
      dsimp only
      refine n_seq ?_
      refine ⟨_, rfl, p, a, 4, _, rfl, hpG, by decide, by decide, by omega, fun r4 G1 r40 r44 eb1' hp1' => ?_⟩
      dsimp only
      have hz1 := eb1' _ _ nlp hz
      obtain ⟨xg, hxg⟩ := hpG.hasP
      have qs1 : DqAll K p G1 zs (ts.map tkD) := DqAll.fl (tupd_l hxg) eb1' _ _ flT qs
      have ebA := eb.trans eb1'
      clear hz qs eb eb1' hxg
      -- the parent
      refine s_join (fun σ G2 => ∃ o : Option Nat, σ = [some (.ref p), some (.int (m : Nat)), some (.ref l), some (.int (0 + (j : Nat))), some (.int r4), some (optV o)] ∧ (∀ q, o = some q → q < j) ∧ ExB p G1 G2 ∧ Pen G2 p a (N + 3 + 4 * j)) (fun NX hNX => ?_) ?_
      · refine (et_or (et_test (ev_op (ev_var rfl) ev_c (rv_eq rfl))) fun _ => et_test (ev_op (ev_var rfl) ev_c (rv_eq rfl))) G1 (Ex.refl _) _ fun G2 e2 => ?_
        have hp2 := hp1'.ex e2
        have c0 : (decide (V.int (0 + ((j : Nat) : Int)) = V.int 0) || decide (V.int r4 = V.int 0)) = decide (j = 0 ∨ r4 = 0) := by
          rw [Bool.eq_iff_iff, Bool.or_eq_true, decide_eq_true_iff, decide_eq_true_iff, decide_eq_true_iff, V.int.injEq, V.int.injEq]
          omega
        rw [c0]
        by_cases c : j = 0 ∨ r4 = 0
        · rw [decide_eq_true c]
          refine iteT ?_
          exact hNX _ _ ⟨none, rfl, fun q z => (nomatch z), Ex.b e2, hp2.mono (by omega)⟩
        · rw [decide_eq_false c]
          refine iteF ?_
          have j1 : 1 ≤ j := by omega
          refine ⟨_, rfl, _, _, rfl, rfl, _, rfl, _, rfl, p, a, _, _, rfl, hp2, by omega, by omega, by omega, fun rd G3 rd0 rd1 eb3 hp3 => ⟨by show 3 ≤ sizeLine; decide, fun l3 f3 => ?_⟩⟩
          have x3 := Ex.new (o := .lst [V.int (0 + ((j : Nat) : Int) - 1), .int 0, .int rd]) f3
          obtain ⟨q, q0, qj, hq⟩ : ∃ q : Int, 0 ≤ q ∧ q < (j : Nat) ∧ atI [V.int (0 + ((j : Nat) : Int) - 1), .int 0, .int rd] (r4 - 1) = some (.int q) := by
            obtain rfl | rfl | rfl : r4 = 1 ∨ r4 = 2 ∨ r4 = 3 := by omega
            · exact ⟨0 + (j : Nat) - 1, by omega, by omega, rfl⟩
            · exact ⟨0, by omega, by omega, rfl⟩
            · exact ⟨rd, rd0, by omega, rfl⟩
          refine ⟨_, rfl, _, _, rfl, rfl, l3, _, _, .int q, rfl, rfl, SqL.of upd_same, hq, hNX _ _ ⟨some q.toNat, ?_, fun q' z => ?_, (Ex.b e2).trans (eb3.trans (Ex.b x3)), (hp3.ex x3).mono (by omega)⟩⟩
          · show _ = [_, _, _, _, _, some (V.int ((q.toNat : Nat) : Int))]
            rw [show ((q.toNat : Nat) : Int) = q by omega]
            rfl
          · cases z
            omega
      · rintro σ G2 ⟨o, rfl, ho, eb2, hp2⟩
        have hz2 := eb2 _ _ nlp hz1
        obtain ⟨x1, hx1⟩ := hp1'.hasP
        have qs2 : DqAll K p G2 zs (ts.map tkD) := DqAll.fl (tupd_l hx1) eb2 _ _ flT qs1
        have ebB := ebA.trans eb2
        clear qs1 eb2 hz1 hp1' hx1 ebA
        refine ⟨_, rfl, .inl ⟨rfl, _, SqL.of hz2⟩, _, rfl, _, rfl, p, a, _, rfl, hp2, by omega, fun v1 d1 G3 eb3 hp3 q1 _ => ?_⟩
        obtain ⟨x2, hx2⟩ := hp2.hasP
        obtain ⟨x3, hx3⟩ := hp3.hasP
        refine ⟨_, rfl, p, a, _, rfl, hp3, by omega, fun v2 d2 G4 eb4 hp4 q2 f2 => ?_⟩
        refine ⟨by show 3 ≤ sizeLine; decide, fun t ft => ?_⟩
        have hz4 := eb4 _ _ nlp (eb3 _ _ nlp hz2)
        have x5 := Ex.new (o := .tup [optV o, v1, v2]) ft
        have zl : zs.length = j := by rw [qs2.len, List.length_map, tl]
        have q4 : DqAll K p G4 zs (ts.map tkD) := DqAll.fl (tupd_l hx2) (eb3.trans eb4) _ _ flT qs2
        have q14 := q1.lst hx3 eb4
        have tk : TOk j ⟨o, d1, d2⟩ := ⟨ho, q1.bd, q2.bd, f2⟩
        have hz5 := x5 _ _ hz4
        have up : ExB l (upd G4 t (.tup [optV o, v1, v2])) (upd (upd G4 t (.tup [optV o, v1, v2])) l (.lst (zs ++ [.ref t]))) := ExB.upd (ExB.refl l _)
        have qt : Dq K p (upd G4 t (.tup [optV o, v1, v2])) (.ref t) (tkD ⟨o, d1, d2⟩) := .tup (SqT.of upd_same) (.cons opt_D (.cons (q14.ex x5).dq (.cons (q2.ex x5).dq .nil)))
        refine ⟨l, zs, .ref t, rfl, rfl, hz5, small1000 (by omega), ?_⟩
        refine ⟨zs ++ [.ref t], ts ++ [⟨o, d1, d2⟩], _, _, _, rfl, fun b ob nb hb => ?_, ((hp4.ex x5).upd nlp nla).mono (by omega), upd_same, ?_, by rw [List.length_append, tl]; rfl, fun i t' ht' => ?_⟩
        · rw [upd_ne (ne_of_none hb fl)]
          exact x5 _ _ (eb4 _ _ nb (eb3 _ _ nb (ebB _ _ nb hb)))
        · rw [List.map_append]
          exact (DqAll.fl (tupd_l hz5) up _ _ flT (DqAll.ex x5 _ _ q4)).append (.cons (Dq.fl (tupd_l hz5) up _ _ (flat_tk _) qt) .nil)
        · by_cases c : i < j
          · rw [List.getElem?_append_left (by omega)] at ht'
            exact oks i t' ht'
          · rw [List.getElem?_append_right (by omega), tl] at ht'
            have hi : i = j := by
              have := (List.getElem?_eq_some_iff.mp ht').1
              simp at this
              omega
            subst hi
            rw [Nat.sub_self] at ht'
            simp only [List.getElem?_cons_zero, Option.some.injEq] at ht'
            subst ht'
            exact tk
    · rintro σ G ⟨zs, ts, y3, y4, y5, rfl, eb, hpG, hz, qs, tl, oks⟩
      refine ⟨_, rfl, l, zs, rfl, .inl ⟨SqL.of hz, fun t ft => ?_⟩⟩
      have x1 := Ex.new (o := .tup zs) ft
      exact k (.ref t) ts _ (eb.trans (Ex.b x1)) ((hpG.ex x1).mono (by omega)) (.tup (SqT.of upd_same) (DqAll.ex x1 _ _ qs)) (fok_of (by omega) (by omega) oks) (by omega)
end
/-! ### all orders -/
def extF (F : List Fk) (r : List Nat) (n : Nat) : List (List Nat) := ((List.range n).filter (okL F r)).map fun i => r ++ [i]
theorem ext_succ (F : List Fk) (r : List Nat) (n : Nat) : extF F r (n + 1) = extF F r n ++ (if okL F r n = true then [r ++ [n]] else []) := by
  unfold extF
  rw [List.range_succ, List.filter_append, List.map_append]
  congr 1
  by_cases h : okL F r n = true
  · rw [if_pos h]; simp [h]
  · rw [if_neg h]; simp [h]
theorem ext_len (F : List Fk) (r : List Nat) (n : Nat) : (extF F r n).length ≤ n := by
  unfold extF
  rw [List.length_map]
  have := List.length_filter_le (okL F r) (List.range n)
  rwa [List.length_range] at this
def accF (F : List Fk) (rss : List (List Nat)) (j : Nat) : List (List Nat) := (rss.take j).flatMap fun r => extF F r F.length
theorem acc_succ {F : List Fk} {rss : List (List Nat)} {j : Nat} {r : List Nat} (h : rss[j]? = some r) : accF F rss (j + 1) = accF F rss j ++ extF F r F.length := by
  unfold accF
  rw [take_snoc h, List.flatMap_append]
  simp
theorem flat_len {α β : Type} {f : α → List β} {m : Nat} (h : ∀ a, (f a).length ≤ m) : ∀ xs : List α, (xs.flatMap f).length ≤ xs.length * m
  | [] => Nat.zero_le _
  | x :: xs => by
    rw [List.flatMap_cons, List.length_append, List.length_cons, Nat.succ_mul]
    have := flat_len h xs
    have := h x
    omega
theorem acc_len (F : List Fk) (rss : List (List Nat)) (j : Nat) : (accF F rss j).length ≤ j * F.length := by
  unfold accF
  refine Nat.le_trans (flat_len (fun r => ext_len F r F.length) _) (Nat.mul_le_mul_right _ ?_)
  rw [List.length_take]
  omega
theorem rows_acc (F : List Fk) (k : Nat) : rowsF F (k + 1) = accF F (rowsF F k) (rowsF F k).length := by
  unfold accF
  rw [List.take_length]
  rfl
theorem rows_len (F : List Fk) : ∀ k, (rowsF F k).length ≤ F.length ^ k
  | 0 => Nat.le_refl _
  | k + 1 => by
    rw [rows_acc, Nat.pow_succ]
    exact Nat.le_trans (acc_len F _ _) (Nat.mul_le_mul_right _ (rows_len F k))
/-- lists of numbers, new since H0, not the one at D -/
def Rs (H0 : Hp) (D : Addr) (G : Hp) (as : List Addr) (rss : List (List Nat)) : Prop := as.length = rss.length ∧ ∀ (i : Nat) (a : Addr) (r : List Nat), as[i]? = some a → rss[i]? = some r → G a = some (.lst (intsV r)) ∧ a ≠ sysModules ∧ H0 a = none ∧ a ≠ D
theorem Rs.ex {H0 G G' : Hp} {D : Addr} {as : List Addr} {rss : List (List Nat)} (e : ExB D G G') (h : Rs H0 D G as rss) : Rs H0 D G' as rss := ⟨h.1, fun i a r ha hr => by
  obtain ⟨h1, h2, h3, h4⟩ := h.2 i a r ha hr
  exact ⟨e _ _ h4 h1, h2, h3, h4⟩⟩
theorem Rs.nil {H0 G : Hp} {D : Addr} : Rs H0 D G [] [] := ⟨rfl, fun i a r ha => by simp at ha⟩
theorem Rs.snoc {H0 G : Hp} {D a : Addr} {as : List Addr} {rss : List (List Nat)} {r : List Nat} (h : Rs H0 D G as rss) (ha : G a = some (.lst (intsV r))) (n1 : a ≠ sysModules) (n2 : H0 a = none) (n3 : a ≠ D) : Rs H0 D G (as ++ [a]) (rss ++ [r]) := by
  refine ⟨by rw [List.length_append, List.length_append, h.1]; rfl, fun i b s hb hs => ?_⟩
  by_cases c : i < as.length
  · rw [List.getElem?_append_left c] at hb
    rw [List.getElem?_append_left (by rw [← h.1]; exact c)] at hs
    exact h.2 i b s hb hs
  · rw [List.getElem?_append_right (by omega)] at hb
    rw [List.getElem?_append_right (by rw [← h.1]; omega), ← h.1] at hs
    have e0 : i - as.length = 0 := by
      cases hh : i - as.length with
      | zero => rfl
      | succ n => rw [hh] at hb; cases hb
    rw [e0] at hb hs
    cases hb
    cases hs
    exact ⟨ha, n1, n2, n3⟩
theorem Rs.free {H0 G : Hp} {D D' : Addr} {as : List Addr} {rss : List (List Nat)} (h : Rs H0 D G as rss) (hD : G D' = none) : Rs H0 D' G as rss := ⟨h.1, fun i a r ha hr => by
  obtain ⟨h1, h2, h3, _⟩ := h.2 i a r ha hr
  exact ⟨h1, h2, h3, ne_of_none h1 hD⟩⟩
theorem Ex.viaB {H G G1 : Hp} {D : Addr} (ex : Ex H G) (n : H D = none) (e : ExB D G G1) : Ex H G1 := fun b o hb => e b o (fun z => by rw [z, n] at hb; cases hb) (ex b o hb)
theorem small4000 {n : Nat} (h : n ≤ 4000) : n < sizeLine := Nat.lt_of_le_of_lt h (by decide)
section
variable {K : PySem.W.Frag} {p : Addr} {σ : L2.St} {H : Hp} {u : V} {F : List Fk} {i j n : Nat}
/-- forest[number][0] -/
theorem rd_par {Q : VK} {t : Fk} (hi : σ[i]? = some (some u)) (hu : Dq K p H u (fsD F)) (hj : σ[j]? = some (some (.int (n : Nat)))) (ht : F[n]? = some t) (k : Q (optV t.par) H) : tOp (rIxT K) (tOp (rIxT K) (tVar i) (tVar j)) (tC (.int 0)) σ H Q := by
  obtain ⟨a, xs, rfl, hS, hA⟩ := hu.seq
  have l : n < F.length := (List.getElem?_eq_some_iff.mp ht).1
  have il : n < xs.length := by rw [hA.len, List.length_map]; exact l
  have hx := List.getElem?_eq_getElem il
  obtain ⟨t', ht', qt⟩ := hA.at_ hx
  rw [ht] at ht'
  cases ht'
  obtain ⟨b, x0, x1, e1, hb, q0, q1⟩ := qt.t3
  refine ⟨_, hi, _, hj, a, xs, (n : Int), _, rfl, rfl, hS, atI_nat hx, ?_⟩
  rw [e1]
  exact ⟨b, _, 0, _, rfl, rfl, hb, rfl, k⟩
end
section
variable {P : Program} {w : World} {K : PySem.W.Frag} {mg : Str → Option Value} {base : Heap}
def spOrds (K : PySem.W.Frag) : Sp := fun vs H Q _ => ∃ (p : Addr) (u : V) (F : List Fk), vs = [u] ∧ Dq K p H u (fsD F) ∧ FOk F ∧ F.length ≤ 5 ∧ ∀ L as H', Ex H H' → H L = none → H' L = some (.lst (as.map V.ref)) → Rs H L H' as (rowsF F F.length) → Q (.ref L) H'
theorem ok__law_orders (T : Txt K mg) : FnOk P w K mg base CX0 1 T.d__law_orders.a T.d__law_orders.fd ["_law_forest_here"] (spOrds K) := by
  refine T.d__law_orders.F.ok sc__law_orders (fun vs H Q E h => ?_) (fun cdv A outer s H vs Q E hr h => ?_)
  · obtain ⟨p, u, F, rfl, _⟩ := h
    rfl
  · obtain ⟨p, u, F, rfl, hu, ok, l5, k⟩ := h
    refine ⟨_, (pss_cons (ps_set (i := 1) sc__law_orders.nd rfl (Or.inl rfl) (pe_lstN (pa_cons (pe_lstN pa_nil) pa_nil)))
      (pss_cons (ps_for PassesOwn.never rfl (pi_range1 (by rfl) T.n_range (pa_cons (pe_callB call_len_seq (by rfl) T.n_len (by decide +kernel) (pa_cons (pv 0) pa_nil)) pa_nil)) (pg_name (i := 2) sc__law_orders.nd rfl (Or.inl rfl)) (pss_cons (ps_set (i := 3) sc__law_orders.nd rfl (Or.inl rfl) (pe_lstN pa_nil))
      (pss_cons (ps_for PassesOwn.never rfl (pi_list (pv 1)) (pg_name (i := 4) sc__law_orders.nd rfl (Or.inl rfl)) (pss_one (ps_for PassesOwn.never rfl (pi_range1 (by rfl) T.n_range (pa_cons (pe_callB call_len_seq (by rfl) T.n_len (by decide +kernel) (pa_cons (pv 0) pa_nil)) pa_nil)) (pg_name (i := 5) sc__law_orders.nd rfl (Or.inl rfl)) (pss_cons (ps_set (i := 6) sc__law_orders.nd rfl (Or.inl rfl) (pe_ix ix_tup (pe_ix ix_tup (pv 0) (pv 5) (fun _ _ => rfl)) pe_int (fun _ _ => rfl)))
      (pss_one (ps_if (PW.pt (pw_and (pt_cmpR op_notIn_seq (pv 5) (pv 4) (by rfl)) (pw_and1 (PW.pt (pw_or (pt_cmpR op_isN (pv 6) pe_non (nomark _)) (pw_or1 (pt_cmpR op_in_seq (pv 6) (pv 4) (by rfl)))))))) (pss_one (ps_expr (pe_bm PySem.F.plainAttrs_list PySem.F.slot_list_append PySem.F.type_list_append mt_append (pv 3) (pa_cons (pe_op op_catN (pv 4) (pe_lstN (pa_cons (pv 5) pa_nil))) pa_nil)))) pss_nil))))))
      (pss_one (ps_set (i := 1) sc__law_orders.nd rfl (Or.inl rfl) (pv 3))))))
      (pss_one (ps_ret (pv 1))))), ?_⟩
    have ul : ∃ a xs, u = .ref a ∧ SqT K H a xs ∧ xs.length = F.length := by
      obtain ⟨a, xs, rfl, hS, hA⟩ := hu.seq
      exact ⟨a, xs, rfl, hS, by rw [hA.len, List.length_map]⟩
    obtain ⟨ua, uxs, rfl, huS, uxl⟩ := ul
    refine n_seq ?_
    refine ⟨by show 0 ≤ sizeLine; decide, fun b fb bm => ⟨by show 1 ≤ sizeLine; decide, fun L fL _ => ?_⟩⟩
    dsimp only
    have xb := Ex.new (o := .lst []) fb
    have xL := Ex.new (o := .lst [.ref b]) fL
    have hb0 : (upd (upd H b (.lst [])) L (.lst [.ref b])) b = some (.lst (intsV [])) := xL _ _ upd_same
    have hL0 : (upd (upd H b (.lst [])) L (.lst [.ref b])) L = some (.lst (([b] : List Addr).map V.ref)) := upd_same
    have X0 := xb.trans xL
    have nbL : b ≠ L := ne_of_none (H := upd H b (.lst [])) upd_same fL
    have fL0 : H L = none := none_ex xb fL
    generalize upd (upd H b (.lst [])) L (.lst [.ref b]) = G0 at hb0 hL0 X0
    have R0 : Rs H L G0 [b] (rowsF F 0) := ⟨rfl, fun i a r ha hr => by
      cases i with
      | zero =>
        cases ha
        cases hr
        exact ⟨hb0, bm, fb, nbL⟩
      | succ i => simp at ha⟩
    refine n_seq ?_
    refine ⟨_, rfl, ua, uxs, rfl, .inr (ex_t X0 huS), (uxs.length : Int), rfl, by omega, by omega, ?_⟩
    refine for_range (lo := 0) (n := uxs.length) (fun k σ G => ∃ L as y2 y3 y4 y5 y6, σ = [some (.ref ua), some (.ref L), y2, y3, y4, y5, y6] ∧ Ex H G ∧ H L = none ∧ G L = some (.lst (as.map V.ref)) ∧ Rs H L G as (rowsF F k)) ⟨L, [b], none, none, none, none, none, rfl, X0, fL0, hL0, R0⟩ ?_ ?_
    · rintro kk σ G hk ⟨L, as, y2, y3, y4, y5, y6, rfl, ex, nL, hL, rs⟩
      refine n_name ?_
      dsimp only
      refine n_seq ?_
      refine ⟨by show 0 ≤ sizeLine; decide, fun D nD _ => ?_⟩
      dsimp only
      have xD := Ex.new (o := .lst []) nD
      have nHD : H D = none := none_ex ex nD
      have nLD : L ≠ D := ne_of_none hL nD
      have asl := rs.1
      have rl := rows_len F kk
      have p4 : F.length ^ kk ≤ 5 ^ kk := Nat.pow_le_pow_left l5 kk
      have p3 : 5 ^ kk ≤ 5 ^ 4 := Nat.pow_le_pow_right (by decide) (by omega)
      have rl64 : (rowsF F kk).length ≤ 625 := by
        have : (5 : Nat) ^ 4 = 625 := by decide
        omega
      refine n_seq ?_
      refine ⟨_, rfl, L, rfl, ⟨_, SqL.of (xD _ _ hL)⟩, ?_⟩
      refine for_list (K := K) (a := L) (xs := as.map V.ref) (fun j σ G1 => ∃ bs y4 y5 y6, σ = [some (.ref ua), some (.ref L), some (.int (0 + (kk : Nat))), some (.ref D), y4, y5, y6] ∧ ExB D G G1 ∧ Rs H D G1 bs (accF F (rowsF F kk) j) ∧ G1 D = some (.lst (bs.map V.ref)) ∧ j ≤ as.length) ⟨[], _, _, _, rfl, Ex.b xD, Rs.nil, upd_same, Nat.zero_le _⟩ (fun j σ G1 _ h => by
        obtain ⟨_, _, _, _, _, e, _⟩ := h
        exact SqL.of (e _ _ nLD hL)) ?_ ?_
      · rintro j x σ G1 hx ⟨bs, y4, y5, y6, rfl, e1, rs1, hD, jl⟩
        have jl' : j < as.length := by
          have := (List.getElem?_eq_some_iff.mp hx).1
          rwa [List.length_map] at this
        obtain ⟨a, ha0⟩ : ∃ a, as[j]? = some a := ⟨_, List.getElem?_eq_getElem jl'⟩
        rw [List.getElem?_map, ha0] at hx
        cases hx
        obtain ⟨r, hr0⟩ : ∃ r, (rowsF F kk)[j]? = some r := ⟨_, List.getElem?_eq_getElem (by omega)⟩
        obtain ⟨ha, am, an, _⟩ := rs.2 j a r ha0 hr0
        have naD : a ≠ D := ne_of_none ha nD
        have r4 : r.length ≤ 5 := by
          have := ((mem_rows F kk r).mp (List.mem_of_getElem? hr0)).1
          omega
        refine n_name ?_
        dsimp only
        have exG : Ex H G1 := Ex.viaB ex nHD e1
        refine ⟨_, rfl, ua, uxs, rfl, .inr (ex_t exG huS), (uxs.length : Int), rfl, by omega, by omega, ?_⟩
        refine for_range (lo := 0) (n := uxs.length) (fun n σ G2 => ∃ bs y5 y6, σ = [some (.ref ua), some (.ref L), some (.int (0 + (kk : Nat))), some (.ref D), some (.ref a), y5, y6] ∧ ExB D G G2 ∧ Rs H D G2 bs (accF F (rowsF F kk) j ++ extF F r n) ∧ G2 D = some (.lst (bs.map V.ref))) ⟨bs, _, _, rfl, e1, by show Rs H D G1 bs (_ ++ []); rw [List.append_nil]; exact rs1, hD⟩ ?_ ?_
        · rintro n σ G2 hn ⟨bs, y5, y6, rfl, e2, rs2, hD2⟩
          rw [show (0 : Int) + ((n : Nat) : Int) = ((n : Nat) : Int) by omega]
          obtain ⟨t, ht⟩ : ∃ t, F[n]? = some t := ⟨_, List.getElem?_eq_getElem (by omega)⟩
          have ha2 := e2 _ _ naD ha
          have ex2 : Ex H G2 := Ex.viaB ex nHD e2
          have hu2 := Dq.ex ex2 _ _ hu
          refine n_name ?_
          dsimp only
          have okn : okL F r n = (!decide (n ∈ r) && upL t.par r) := by
            unfold okL
            rw [decide_eq_true (by omega : n < F.length), Bool.true_and, parF_at ht]
          refine n_seq ?_
          refine rd_par rfl hu2 rfl ht ?_
          dsimp only
          have tst : EvT (tAnd (tTest (tOp (rIn K true) (tVar 5) (tVar 4))) (tOr (tTest (tOp (fun x y H Q => y = V.non ∧ Q (V.bl (decide (x = V.non))) H) (tVar 6) (tC V.non))) (tTest (tOp (rIn K false) (tVar 6) (tVar 4)))))
              [some (.ref ua), some (.ref L), some (.int (0 + (kk : Nat))), some (.ref D), some (.ref a), some (.int (n : Nat)), some (optV t.par)] G2 (okL F r n) := by
            rw [okn]
            refine et_and (fun H1 e Q' k' => ?_) fun _ => ?_
            · refine ⟨_, rfl, _, rfl, a, intsV r, rfl, .inl (SqL.of (e _ _ ha2)), rfl, flat_ints r, _, rfl, ?_⟩
              rw [if_pos rfl, inV_ints]
              exact k' H1 (Ex.refl _)
            · cases hp : t.par with
              | none =>
                refine et_is (et_or (a := true) (b := true) (fun H1 e Q' k' => ?_) fun z => nomatch z) rfl
                exact ⟨_, rfl, rfl, _, rfl, k' H1 (Ex.refl _)⟩
              | some q =>
                refine et_is (et_or (a := false) (b := decide (q ∈ r)) (fun H1 e Q' k' => ?_) fun _ => fun H1 e Q' k' => ?_) rfl
                · exact ⟨_, rfl, rfl, _, rfl, k' H1 (Ex.refl _)⟩
                · refine ⟨_, rfl, _, rfl, a, intsV r, rfl, .inl (SqL.of (e _ _ ha2)), rfl, flat_ints r, _, rfl, ?_⟩
                  rw [if_neg (by decide), show optV (some q) = .int ((q : Nat) : Int) from rfl, inV_ints]
                  exact k' H1 (Ex.refl _)
          refine s_if tst (fun hc G3 e3 => ?_) (fun hc G3 e3 => ?_)
          · have hD3 := e3 _ _ hD2
            have bl : bs.length ≤ 3200 := by
              have h1 := rs2.1
              have h2 := acc_len F (rowsF F kk) j
              have h3 := ext_len F r n
              have h4 : j * F.length ≤ 625 * 5 := Nat.mul_le_mul (by omega) l5
              rw [List.length_append] at h1
              omega
            refine ⟨.ref D, rfl, .inl ⟨rfl, _, SqL.of hD3⟩, ?_⟩
            refine ⟨_, rfl, _, rfl, by show 1 ≤ sizeLine; decide, fun b5 f5 _ => ?_⟩
            have x5 := Ex.new (o := .lst [.int (n : Nat)]) f5
            refine ⟨a, b5, intsV r, [.int (n : Nat)], rfl, rfl, x5 _ _ (e3 _ _ ha2), upd_same, by rw [intsV_len]; exact Nat.le_of_lt (small1000 (by show r.length + 1 ≤ 1000; omega)), fun c fc cm => ?_⟩
            have xc := Ex.new (o := .lst (intsV r ++ [.int (n : Nat)])) fc
            refine ⟨D, bs.map V.ref, .ref c, rfl, rfl, (x5.trans xc) _ _ hD3, small4000 (by rw [List.length_map]; omega), ?_⟩
            have X3 := (e3.trans (x5.trans xc))
            have hDc := (x5.trans xc) _ _ hD3
            have ncD : c ≠ D := (ne_of_none (x5 _ _ hD3) fc).symm
            have hc1 : (upd (upd G3 b5 (.lst [.int (n : Nat)])) c (.lst (intsV r ++ [.int (n : Nat)]))) c = some (.lst (intsV (r ++ [n]))) := by
              rw [upd_same]
              unfold intsV
              rw [List.map_append]
              rfl
            have hcn : H c = none := none_ex ((ex2.trans e3).trans x5) fc
            have R := (rs2.ex (Ex.b X3)).snoc hc1 cm hcn ncD
            refine ⟨bs ++ [c], _, _, rfl, (e2.trans (Ex.b X3)).upd, ?_, ?_⟩
            · rw [ext_succ, if_pos hc, ← List.append_assoc]
              exact R.ex (ExB.upd (ExB.refl D _))
            · rw [upd_same, List.map_append]
              rfl
          · refine n_next ?_
            refine ⟨bs, _, _, rfl, e2.trans (Ex.b e3), ?_, e3 _ _ hD2⟩
            rw [ext_succ, if_neg (by rw [hc]; decide), List.append_nil]
            exact rs2.ex (Ex.b e3)
        · rintro σ G2 ⟨bs, y5, y6, rfl, e2, rs2, hD2⟩
          rw [uxl] at rs2
          rw [← acc_succ hr0] at rs2
          exact ⟨bs, _, _, _, rfl, e2, rs2, hD2, jl'⟩
      · rintro σ G1 ⟨bs, y4, y5, y6, rfl, e1, rs1, hD, jl⟩
        rw [List.length_map, asl, ← rows_acc] at rs1
        refine ⟨_, rfl, D, bs, _, _, _, _, _, rfl, Ex.viaB ex nHD e1, nHD, hD, rs1⟩
    · rintro σ G ⟨L, as, y2, y3, y4, y5, y6, rfl, ex, nL, hL, rs⟩
      rw [uxl] at rs
      exact ⟨_, rfl, k L as G ex nL hL rs⟩
end
/-! ### the law's own runs -/
section
variable {P : Program} {w : World} {K : PySem.W.Frag} {mg : Str → Option Value} {base : Heap}
theorem ok__law_run (T : Txt K mg) : FnOk P w K mg base CX0 3 T.d__law_run.a T.d__law_run.fd ["_law_forest_here", "_law_order"] (spRunOf K) := by
  refine T.d__law_run.F.ok sc__law_run (fun vs H Q E h => ?_) (fun cdv A outer s H vs Q E hr h => ?_)
  · obtain ⟨p, u, l, F, ns, rfl, _⟩ := h
    rfl
  · obtain ⟨p, u, l, F, ns, rfl, hu, ok, hS, hn, l8, k⟩ := h
    refine ⟨_, (pss_cons (ps_asg (pe_tup (pa_cons (pe_tup (pa_cons pe_int (pa_cons pe_int pa_nil))) (pa_cons (pe_tup (pa_cons pe_int (pa_cons pe_int pa_nil))) pa_nil))) (pg_tup (by rfl) (pgs_cons (pg_name (i := 2) sc__law_run.nd rfl (Or.inl rfl)) (pgs_cons (pg_name (i := 3) sc__law_run.nd rfl (Or.inl rfl)) pgs_nil))))
      (pss_cons (ps_for PassesOwn.never rfl (pi_list (pv 1)) (pg_name (i := 4) sc__law_run.nd rfl (Or.inl rfl)) (pss_cons (ps_set (i := 2) sc__law_run.nd rfl (Or.inl rfl) (pe_call (ok__law_add T) (hr.mono (by decide)) (by rfl) T.d__law_add.g T.d__law_add.F.kp T.d__law_add.b .nil pass0 (pa_cons (pv 2) (pa_cons (pe_call (ok__law_mul T) (hr.mono (by decide)) (by rfl) T.d__law_mul.g T.d__law_mul.F.kp T.d__law_mul.b .nil pass0 (pa_cons (pv 3) (pa_cons (pe_ix ix_tup (pe_ix ix_tup (pv 0) (pv 4) (fun _ _ => rfl)) pe_int (fun _ _ => rfl)) pa_nil))) pa_nil))))
      (pss_one (ps_set (i := 3) sc__law_run.nd rfl (Or.inl rfl) (pe_call (ok__law_mul T) (hr.mono (by decide)) (by rfl) T.d__law_mul.g T.d__law_mul.F.kp T.d__law_mul.b .nil pass0 (pa_cons (pv 3) (pa_cons (pe_ix ix_tup (pe_ix ix_tup (pv 0) (pv 4) (fun _ _ => rfl)) pe_int (fun _ _ => rfl)) pa_nil)))))))
      (pss_one (ps_ret (pe_tup (pa_cons (pv 2) (pa_cons (pv 3) pa_nil))))))), ?_⟩
    refine n_seq ?_
    refine ⟨by show 2 ≤ sizeLine; decide, fun t0 ft0 => ⟨by show 2 ≤ sizeLine; decide, fun t1 ft1 => ⟨by show 2 ≤ sizeLine; decide, fun t2 ft2 => ⟨t2, _, rfl, SqT.of upd_same, rfl, _, _, rfl, _, _, rfl, rfl, ?_⟩⟩⟩⟩
    have y0 := Ex.new (o := .tup [.int 0, .int 1]) ft0
    have y1 := Ex.new (o := .tup [.int 1, .int 1]) ft1
    have y2 := Ex.new (o := .tup [.ref t0, .ref t1]) ft2
    have x0 := (y0.trans y1).trans y2
    have f0 : Fr K 2 0 (.ref t0) (upd (upd (upd H t0 (.tup [.int 0, .int 1])) t1 (.tup [.int 1, .int 1])) t2 (.tup [.ref t0, .ref t1])) := ⟨_, rfl, .inl (.inl ((y1.trans y2) _ _ upd_same)), by decide, by decide⟩
    have f1 : Fr K 2 1 (.ref t1) (upd (upd (upd H t0 (.tup [.int 0, .int 1])) t1 (.tup [.int 1, .int 1])) t2 (.tup [.ref t0, .ref t1])) := ⟨_, rfl, .inl (.inl (y2 _ _ upd_same)), by decide, by decide⟩
    dsimp only
    generalize upd (upd (upd H t0 (.tup [.int 0, .int 1])) t1 (.tup [.int 1, .int 1])) t2 (.tup [.ref t0, .ref t1]) = H0 at x0 f0 f1
    refine n_seq ?_
    refine ⟨_, rfl, l, rfl, ⟨_, ex_l x0 hS⟩, ?_⟩
    refine for_list (K := K) (a := l) (xs := intsV ns) (fun i σ G => Ex H G ∧ ∃ (z1 z2 : V) (y : Option V), σ = [some u, some (.ref l), some z1, some z2, y] ∧ Fr K (2 + 52 * i) (worthF F (ns.take i)) z1 G ∧ Fr K (2 + 11 * i) (prodF F (ns.take i)) z2 G) ⟨x0, _, _, none, rfl, f0, f1⟩ (fun i σ G _ h => ex_l h.1 hS) ?_ ?_
    · rintro i x σ G hx ⟨ex, z1, z2, y, rfl, g1, g2⟩
      have il : i < ns.length := by
        have := (List.getElem?_eq_some_iff.mp hx).1
        rwa [intsV_len] at this
      obtain ⟨n, hn1, rfl⟩ := intsV_at hx
      have nl := hn n (List.mem_of_getElem? hn1)
      have tl : (ns.take (i + 1)).length = i + 1 := by rw [List.length_take]; omega
      refine n_name ?_
      dsimp only
      refine n_seq ?_
      refine s_asgP (ep_2L (K := K) (n := (2 + 52 * i) + (2 + 11 * i + 40 + 1) + 1) (ep_var rfl g1) (ep_2L (n := 2 + 11 * i + 40 + 1) (ep_var rfl g2) (ep_pay ok rfl (Dq.ex ex _ _ hu) rfl nl) trivial (by omega) rfl) trivial (by omega) rfl) fun w1 G2 e2 h1 => ?_
      dsimp only
      refine s_asgP (ep_2L (K := K) (n := 2 + 11 * i + 10 + 1) (ep_var rfl (g2.ex e2)) (ep_fac ok rfl (Dq.ex (ex.trans e2) _ _ hu) rfl nl) trivial (by omega) rfl) fun w2 G3 e3 h2 => ?_
      dsimp only
      have b1 := ok.bworth (ns.take (i + 1))
      have b2 := ok.bprod (ns.take (i + 1))
      rw [tl] at b1 b2
      rw [← worth_snoc, ← take_snoc hn1] at h1
      rw [← prod_snoc, ← take_snoc hn1] at h2
      exact ⟨(ex.trans e2).trans e3, w1, w2, _, rfl, (h1.ex e3).re b1, h2.re b2⟩
    · rintro σ G ⟨ex, z1, z2, y, rfl, g1, g2⟩
      rw [intsV_len, List.take_of_length_le (Nat.le_refl _)] at g1 g2
      refine ⟨_, rfl, _, rfl, by show 2 ≤ sizeLine; decide, fun t ft => ?_⟩
      have x1 := Ex.new (o := .tup [z1, z2]) ft
      exact k t z1 z2 _ (ex.trans x1) (SqT.of upd_same) (g1.ex x1) (g2.ex x1)
end
/-! ### the law's table, set by set: forwards -/
def setD (l : List Nat) : Nat := l.foldl addD 0
theorem setD_snoc (l : List Nat) (i : Nat) : setD (l ++ [i]) = addD (setD l) i := by
  unfold setD
  rw [List.foldl_append]
  rfl
theorem seqD_app (F : List Fk) : ∀ (a : List Nat) (d : Nat) (b : List Nat), seqD F d (a ++ b) = (seqD F d a && seqD F (a.foldl addD d) b)
  | [], d, b => by simp [seqD]
  | i :: a, d, b => by
    show (okD F d i && seqD F (addD d i) (a ++ b)) = ((okD F d i && seqD F (addD d i) a) && seqD F (a.foldl addD (addD d i)) b)
    rw [seqD_app F a, Bool.and_assoc]
/-- a way to the set d -/
structure To (F : List Fk) (d : Nat) (l : List Nat) : Prop where
  seq : seqD F 0 l = true
  set : setD l = d
theorem To.nil (F : List Fk) : To F 0 [] := ⟨rfl, rfl⟩
theorem To.snoc {F : List Fk} {d i : Nat} {l : List Nat} (h : To F d l) (hi : okD F d i = true) : To F (addD d i) (l ++ [i]) := ⟨by
  rw [seqD_app, h.seq, Bool.true_and]
  show (okD F (setD l) i && true) = true
  rw [h.set, hi]
  rfl, by rw [setD_snoc, h.set]⟩
theorem To.back {F : List Fk} {d i : Nat} {l : List Nat} (h : To F d (l ++ [i])) : To F (setD l) l ∧ okD F (setD l) i = true ∧ d = addD (setD l) i := by
  have h1 := h.seq
  rw [seqD_app, Bool.and_eq_true] at h1
  refine ⟨⟨h1.1, rfl⟩, ?_, by rw [← h.set, setD_snoc]⟩
  have h2 := h1.2
  show okD F (setD l) i = true
  have : (okD F (setD l) i && true) = true := h2
  rwa [Bool.and_true] at this
theorem snoc_of {l : List Nat} {k : Nat} (h : l.length = k + 1) : ∃ r i, l = r ++ [i] ∧ r.length = k := by
  cases hl : l.reverse with
  | nil =>
    have := congrArg List.length hl
    rw [List.length_reverse, h] at this
    cases this
  | cons i r =>
    refine ⟨r.reverse, i, by rw [← List.reverse_reverse l, hl, List.reverse_cons], ?_⟩
    have := congrArg List.length hl
    rw [List.length_reverse, h, List.length_cons] at this
    rw [List.length_reverse]
    omega
theorem To.lt {F : List Fk} : ∀ {k : Nat} {d : Nat} {l : List Nat}, l.length = k → To F d l → d < 2 ^ F.length ∧ cntD d F.length = k
  | 0, d, l, hl, h => by
    have : l = [] := List.length_eq_zero_iff.mp hl
    subst this
    rw [← h.set]
    exact ⟨Nat.two_pow_pos _, cnt_zero _⟩
  | k + 1, d, l, hl, h => by
    obtain ⟨r, i, rfl, hr⟩ := snoc_of hl
    obtain ⟨h1, h2, rfl⟩ := h.back
    obtain ⟨a, b⟩ := To.lt hr h1
    exact ⟨add_lt a (okD_lt h2), by rw [okD_cnt h2, b]⟩
/-- the product of the factors of a set -/
def prodD (F : List Fk) (d : Nat) : Nat → Rat
  | 0 => 1
  | n + 1 => prodD F d n * (if d.testBit n then facF F n else 1)
theorem prodD_add {F : List Fk} {d i : Nat} (h : d.testBit i = false) : ∀ n, prodD F (addD d i) n = prodD F d n * (if i < n then facF F i else 1)
  | 0 => by
    show (1 : Rat) = 1 * 1
    grind
  | n + 1 => by
    unfold prodD
    rw [prodD_add h n, add_bit]
    by_cases e : i = n
    · subst e
      rw [h]
      simp
    · by_cases l : i < n
      · simp [e, l, Nat.lt_succ_of_lt l]
        grind
      · have : ¬ i < n + 1 := by omega
        simp [e, l, this]
theorem prodD_zero (F : List Fk) : ∀ n, prodD F 0 n = 1
  | 0 => rfl
  | n + 1 => by
    unfold prodD
    rw [prodD_zero F n]
    simp
theorem To.prod {F : List Fk} : ∀ {k : Nat} {d : Nat} {l : List Nat}, l.length = k → To F d l → prodF F l = prodD F d F.length
  | 0, d, l, hl, h => by
    have : l = [] := List.length_eq_zero_iff.mp hl
    subst this
    rw [← h.set]
    exact (prodD_zero F _).symm
  | k + 1, d, l, hl, h => by
    obtain ⟨r, i, rfl, hr⟩ := snoc_of hl
    obtain ⟨h1, h2, rfl⟩ := h.back
    rw [prod_snoc, To.prod hr h1, prodD_add (okD_bit h2), if_pos (okD_lt h2)]
/-- the most that a way to d pays -/
structure Top (F : List Fk) (d : Nat) (q : Rat) : Prop where
  has : ∃ l, To F d l ∧ worthF F l = q
  most : ∀ l, To F d l → worthF F l ≤ q
open Classical in
noncomputable def topQ (F : List Fk) (d : Nat) : Rat := if h : ∃ q, Top F d q then h.choose else 0
theorem top_q {F : List Fk} {d : Nat} {q : Rat} (h : Top F d q) : q = topQ F d := by
  have ex : ∃ q, Top F d q := ⟨q, h⟩
  have e : topQ F d = ex.choose := by
    unfold topQ
    rw [dif_pos ex]
  have h' := ex.choose_spec
  rw [e]
  generalize ex.choose = r at h'
  obtain ⟨l, f, g⟩ := h.has
  obtain ⟨l', f', g'⟩ := h'.has
  have a := h'.most l f
  have b := h.most l' f'
  grind
/-- the numbers of a set, ascending -/
def numsD (n d : Nat) : List Nat := (List.range n).filter (d.testBit ·)
def keyD (n d : Nat) : List Key := (numsD n d).map fun (i : Nat) => (Sum.inl (i : Int) : Key)
theorem mem_nums {n d i : Nat} : i ∈ numsD n d ↔ i < n ∧ d.testBit i = true := by
  unfold numsD
  rw [List.mem_filter, List.mem_range]
theorem nums_sorted (n d : Nat) : (numsD n d).Pairwise (· < ·) := List.Pairwise.filter _ List.pairwise_lt_range
theorem nums_succ (n d : Nat) : numsD (n + 1) d = numsD n d ++ (if d.testBit n = true then [n] else []) := by
  unfold numsD
  rw [List.range_succ, List.filter_append]
  congr 1
  by_cases h : d.testBit n = true
  · rw [if_pos h]; simp [h]
  · rw [if_neg h]; simp [h]
theorem cnt_succ (n d : Nat) : cntD d (n + 1) = cntD d n + (if d.testBit n = true then 1 else 0) := rfl
theorem nums_len : ∀ (n d : Nat), (numsD n d).length = cntD d n
  | 0, _ => rfl
  | n + 1, d => by
    rw [nums_succ, cnt_succ, List.length_append, nums_len n d]
    by_cases h : d.testBit n = true
    · rw [if_pos h, if_pos h]
      rfl
    · rw [if_neg h, if_neg h]
      rfl
theorem nums_inj {n d d' : Nat} (hd : d < 2 ^ n) (hd' : d' < 2 ^ n) (h : numsD n d = numsD n d') : d = d' := by
  refine Nat.eq_of_testBit_eq fun i => ?_
  by_cases l : i < n
  · rw [Bool.eq_iff_iff]
    have := @mem_nums n d i
    have h2 := @mem_nums n d' i
    rw [h] at this
    constructor
    · intro a
      exact (h2.mp (this.mpr ⟨l, a⟩)).2
    · intro a
      exact (this.mp (h2.mpr ⟨l, a⟩)).2
  · rw [Nat.testBit_lt_two_pow (Nat.lt_of_lt_of_le hd (Nat.pow_le_pow_right (by decide) (by omega))), Nat.testBit_lt_two_pow (Nat.lt_of_lt_of_le hd' (Nat.pow_le_pow_right (by decide) (by omega)))]
theorem key_inj {n d d' : Nat} (hd : d < 2 ^ n) (hd' : d' < 2 ^ n) (h : keyD n d = keyD n d') : d = d' := by
  refine nums_inj hd hd' ?_
  unfold keyD at h
  refine (List.map_inj_right (f := fun (i : Nat) => (Sum.inl (i : Int) : Key)) (fun a b e => ?_)).mp h
  have := Sum.inl.inj e
  omega
theorem nums_add {n d i : Nat} (hi : i < n) (hb : d.testBit i = false) {ns : List Nat} (hp : ns.Perm (numsD n d ++ [i])) (hs : ns.Pairwise (· ≤ ·)) : ns = numsD n (addD d i) := by
  have p2 : (numsD n (addD d i)).Perm (numsD n d ++ [i]) := by
    refine (List.perm_ext_iff_of_nodup ((nums_sorted n (addD d i)).imp fun h => Nat.ne_of_lt h) ?_).mpr fun j => ?_
    · rw [List.nodup_append]
      refine ⟨(nums_sorted n d).imp fun h => Nat.ne_of_lt h, by simp, fun a ha b hb' e => ?_⟩
      rw [List.mem_singleton.mp hb'] at e
      rw [e] at ha
      have := (mem_nums.mp ha).2
      rw [hb] at this
      cases this
    · rw [List.mem_append, mem_nums, mem_nums, List.mem_singleton, add_bit, Bool.or_eq_true, decide_eq_true_iff]
      constructor
      · rintro ⟨h1, h2 | h2⟩
        · exact .inl ⟨h1, h2⟩
        · exact .inr h2.symm
      · rintro (⟨h1, h2⟩ | rfl)
        · exact ⟨h1, .inl h2⟩
        · exact ⟨hi, .inr rfl⟩
  exact (hp.trans p2.symm).eq_of_pairwise (fun a b _ _ h1 h2 => Nat.le_antisymm h1 h2) hs ((nums_sorted n (addD d i)).imp Nat.le_of_lt)
/-! ### the law's table: what it holds -/
theorem nodup_le : ∀ (l m : List Nat), l.Nodup → (∀ x ∈ l, x ∈ m) → l.length ≤ m.length
  | [], _, _, _ => Nat.zero_le _
  | a :: l, m, hn, hs => by
    have ha := hs a List.mem_cons_self
    have h1 := nodup_le l (m.erase a) (List.nodup_cons.mp hn).2 fun x hx => by
      have hne : x ≠ a := fun e => (List.nodup_cons.mp hn).1 (e ▸ hx)
      exact (List.mem_erase_of_ne hne).mpr (hs x (List.mem_cons_of_mem _ hx))
    rw [List.length_erase_of_mem ha] at h1
    have := List.length_pos_of_mem ha
    rw [List.length_cons]
    omega
theorem keys_put {κ : Type} [DecidableEq κ] (kvs : List (κ × V)) (k : κ) (v : V) : (putK kvs k v).map (·.1) = if (valV kvs k).isSome = true then kvs.map (·.1) else kvs.map (·.1) ++ [k] := by
  unfold putK
  rw [valV_any]
  by_cases h : (valV kvs k).isSome = true
  · rw [if_pos h, if_pos h, List.map_map]
    refine List.map_congr_left fun p hp => ?_
    show (if p.1 = k then (p.1, v) else p).1 = p.1
    split <;> rfl
  · rw [if_neg h, if_neg h, List.map_append]
    rfl
def EntF (K : PySem.W.Frag) (F : List Fk) (H : Hp) (k d : Nat) (q : Rat) (v : V) : Prop := ∃ t x y l, v = .ref t ∧ SqT K H t [x, y] ∧ Fr K 470 q x H ∧ Fr K 100 (prodD F d F.length) y H ∧ To F d l ∧ l.length = k ∧ worthF F l = q
theorem EntF.ex {K : PySem.W.Frag} {F : List Fk} {H H' : Hp} {k d : Nat} {q : Rat} {v : V} (e : Ex H H') (h : EntF K F H k d q v) : EntF K F H' k d q v := by
  obtain ⟨t, x, y, l, rfl, h1, h2, h3, r⟩ := h
  exact ⟨t, x, y, l, rfl, ex_t e h1, h2.ex e, h3.ex e, r⟩
theorem EntF.tb {K : PySem.W.Frag} {F : List Fk} {H H' : Hp} {D : Addr} {k d : Nat} {q : Rat} {v : V} (hD : tupd H D) (e : ExB D H H') (h : EntF K F H k d q v) : EntF K F H' k d q v := by
  obtain ⟨t, x, y, l, rfl, h1, h2, h3, r⟩ := h
  exact ⟨t, x, y, l, rfl, sqt_tb hD e h1, h2.tb hD e, h3.tb hD e, r⟩
theorem tupd_d {H : Hp} {a : Addr} {xs : List (List Key × V)} (h : H a = some (.dT xs)) : tupd H a := ⟨fun ys => by rw [h]; exact (nofun), fun ys o => by rw [h]; exact (nofun)⟩
structure Tb (K : PySem.W.Frag) (F : List Fk) (H : Hp) (k : Nat) (kvs : List (List Key × V)) (ds : List Nat) (Qs : Nat → Rat) : Prop where
  keys : kvs.map (·.1) = ds.map (keyD F.length)
  nd : ds.Nodup
  ent : ∀ d ∈ ds, ∃ v, valV kvs (keyD F.length d) = some v ∧ EntF K F H k d (Qs d) v
section
variable {K : PySem.W.Frag} {F : List Fk} {H H' : Hp} {k : Nat} {kvs : List (List Key × V)} {ds : List Nat} {Qs : Nat → Rat}
theorem Tb.lt (h : Tb K F H k kvs ds Qs) {d : Nat} (hd : d ∈ ds) : d < 2 ^ F.length ∧ cntD d F.length = k := by
  obtain ⟨v, _, t, x, y, l, _, _, _, _, h1, h2, _⟩ := h.ent d hd
  exact h1.lt h2
theorem Tb.len (h : Tb K F H k kvs ds Qs) (l8 : F.length ≤ 8) : kvs.length ≤ 256 := by
  have h1 := congrArg List.length h.keys
  rw [List.length_map, List.length_map] at h1
  have h2 := nodup_le ds (List.range 256) h.nd fun d hd => by
    have h3 := (h.lt hd).1
    have h4 : 2 ^ F.length ≤ 2 ^ 8 := Nat.pow_le_pow_right (by decide) l8
    rw [List.mem_range]
    have : (2 : Nat) ^ 8 = 256 := by decide
    omega
  rw [List.length_range] at h2
  omega
theorem Tb.ex (e : Ex H H') (h : Tb K F H k kvs ds Qs) : Tb K F H' k kvs ds Qs := ⟨h.keys, h.nd, fun d hd => by
  obtain ⟨v, h1, h2⟩ := h.ent d hd
  exact ⟨v, h1, h2.ex e⟩⟩
theorem Tb.tb {D : Addr} (hD : tupd H D) (e : ExB D H H') (h : Tb K F H k kvs ds Qs) : Tb K F H' k kvs ds Qs := ⟨h.keys, h.nd, fun d hd => by
  obtain ⟨v, h1, h2⟩ := h.ent d hd
  exact ⟨v, h1, h2.tb hD e⟩⟩
theorem valV_mem {κ : Type} [DecidableEq κ] {kvs : List (κ × V)} {k : κ} (h : (valV kvs k).isSome = true) : k ∈ kvs.map (·.1) := by
  rw [← valV_any, List.any_eq_true] at h
  obtain ⟨p, hp, e⟩ := h
  exact List.mem_map.mpr ⟨p, hp, of_decide_eq_true e⟩
theorem Tb.has (h : Tb K F H k kvs ds Qs) {d : Nat} (hd : d < 2 ^ F.length) : (valV kvs (keyD F.length d)).isSome = decide (d ∈ ds) := by
  rw [Bool.eq_iff_iff, decide_eq_true_iff]
  constructor
  · intro z
    have := valV_mem z
    rw [h.keys] at this
    obtain ⟨d', hd', e⟩ := List.mem_map.mp this
    have := key_inj (h.lt hd').1 hd e
    rwa [← this]
  · intro z
    obtain ⟨v, h1, _⟩ := h.ent d z
    rw [h1]
    rfl
def addS (ds : List Nat) (d : Nat) : List Nat := if d ∈ ds then ds else ds ++ [d]
def setQ (Qs : Nat → Rat) (d : Nat) (q : Rat) (d' : Nat) : Rat := if d' = d then q else Qs d'
theorem mem_addS {ds : List Nat} {d d' : Nat} : d' ∈ addS ds d ↔ d' ∈ ds ∨ d' = d := by
  unfold addS
  by_cases h : d ∈ ds
  · rw [if_pos h]
    exact ⟨.inl, fun z => z.elim id fun e => e ▸ h⟩
  · rw [if_neg h, List.mem_append, List.mem_singleton]
theorem Tb.put (h : Tb K F H k kvs ds Qs) {d : Nat} {q : Rat} {v : V} (e : EntF K F H k d q v) : Tb K F H k (putK kvs (keyD F.length d) v) (addS ds d) (setQ Qs d q) := by
  have hd : d < 2 ^ F.length := by
    obtain ⟨t, x, y, l, _, _, _, _, h1, h2, _⟩ := e
    exact (h1.lt h2).1
  refine ⟨?_, ?_, fun d' hd' => ?_⟩
  · rw [keys_put, h.has hd, h.keys]
    unfold addS
    by_cases c : d ∈ ds
    · rw [if_pos (decide_eq_true c), if_pos c]
    · rw [if_neg (by rw [decide_eq_false c]; decide), if_neg c, List.map_append]
      rfl
  · unfold addS
    by_cases c : d ∈ ds
    · rw [if_pos c]
      exact h.nd
    · rw [if_neg c, List.nodup_append]
      exact ⟨h.nd, by simp, fun a ha b hb z => c (by rw [List.mem_singleton.mp hb] at z; rw [← z]; exact ha)⟩
  · rw [valV_put]
    by_cases c : d' = d
    · subst c
      unfold setQ
      rw [if_pos rfl, if_pos rfl]
      exact ⟨v, rfl, e⟩
    · have hm : d' ∈ ds := (mem_addS.mp hd').resolve_right c
      unfold setQ
      rw [if_neg (fun z => c (key_inj (h.lt hm).1 hd z)), if_neg c]
      exact h.ent d' hm
end
def Cov (F : List Fk) (ds : List Nat) (Qs : Nat → Rat) (d n : Nat) : Prop := addD d n ∈ ds ∧ topQ F d + prodD F d F.length * payF F n ≤ Qs (addD d n)
theorem Cov.put {F : List Fk} {ds : List Nat} {Qs : Nat → Rat} {d n d' : Nat} {q : Rat} (h : Cov F ds Qs d n) (le : d' ∈ ds → Qs d' ≤ q) : Cov F (addS ds d') (setQ Qs d' q) d n := by
  refine ⟨mem_addS.mpr (.inl h.1), ?_⟩
  unfold setQ
  by_cases c : addD d n = d'
  · rw [if_pos c]
    have := le (c ▸ h.1)
    have h2 := h.2
    rw [c] at h2
    grind
  · rw [if_neg c]
    exact h.2
/-- a layer, whole -/
structure Ly (K : PySem.W.Frag) (F : List Fk) (H : Hp) (k : Nat) (kvs : List (List Key × V)) (ds : List Nat) (Qs : Nat → Rat) : Prop where
  tb : Tb K F H k kvs ds Qs
  all : ∀ d l, To F d l → l.length = k → d ∈ ds
  top : ∀ d ∈ ds, Top F d (Qs d)
theorem To.len {F : List Fk} {d : Nat} {l l' : List Nat} (h : To F d l) (h' : To F d l') : l'.length = l.length := by
  have a := (h.lt rfl).2
  have b := (h'.lt rfl).2
  omega
theorem nums_zero (n : Nat) : numsD n 0 = [] := by
  unfold numsD
  rw [List.filter_eq_nil_iff]
  intro i _
  simp
theorem ly_zero {K : PySem.W.Frag} {F : List Fk} {H : Hp} {v : V} (e : EntF K F H 0 0 0 v) : Ly K F H 0 [([], v)] [0] fun _ => 0 where
  tb := ⟨by
    show [([] : List Key)] = [keyD F.length 0]
    unfold keyD
    rw [nums_zero]
    rfl, by simp, fun d hd => by
    rw [List.mem_singleton.mp hd]
    refine ⟨v, ?_, e⟩
    unfold keyD
    rw [nums_zero]
    exact valV_pos rfl⟩
  all := fun d l h hl => by
    have : l = [] := List.length_eq_zero_iff.mp hl
    subst this
    rw [← h.set]
    simp [setD]
  top := fun d hd => by
    rw [List.mem_singleton.mp hd]
    refine ⟨⟨[], To.nil F, rfl⟩, fun l h => ?_⟩
    have := To.len (To.nil F) h
    have : l = [] := List.length_eq_zero_iff.mp this
    subst this
    exact Rat.le_refl
theorem ly_next {K : PySem.W.Frag} {F : List Fk} {H : Hp} {k : Nat} {kvs : List (List Key × V)} {ds : List Nat} {Qs : Nat → Rat} (tb : Tb K F H (k + 1) kvs ds Qs)
    (top : ∀ d l, To F d l → l.length = k → Top F d (topQ F d)) (cov : ∀ d l n, To F d l → l.length = k → okD F d n = true → Cov F ds Qs d n) : Ly K F H (k + 1) kvs ds Qs where
  tb := tb
  all := fun d l h hl => by
    obtain ⟨r, i, rfl, hr⟩ := snoc_of hl
    obtain ⟨h1, h2, rfl⟩ := h.back
    exact (cov _ r i h1 hr h2).1
  top := fun d hd => by
    obtain ⟨v, _, t, x, y, l, _, _, _, _, h1, h2, h3⟩ := tb.ent d hd
    refine ⟨⟨l, h1, h3⟩, fun l' h' => ?_⟩
    have hl' : l'.length = k + 1 := by rw [To.len h1 h', h2]
    obtain ⟨r, i, rfl, hr⟩ := snoc_of hl'
    obtain ⟨g1, g2, rfl⟩ := h'.back
    have c := (cov _ r i g1 hr g2).2
    have m := (top _ r g1 hr).most r g1
    rw [worth_snoc, To.prod hr g1]
    grind
theorem ly_topQ {K : PySem.W.Frag} {F : List Fk} {H : Hp} {k : Nat} {kvs : List (List Key × V)} {ds : List Nat} {Qs : Nat → Rat} (h : Ly K F H k kvs ds Qs) {d : Nat} (hd : d ∈ ds) : Qs d = topQ F d := top_q (h.top d hd)
theorem nums_full (n : Nat) : numsD n (2 ^ n - 1) = List.range n := by
  unfold numsD
  rw [List.filter_eq_self]
  intro i hi
  show (2 ^ n - 1).testBit i = true
  rw [every_bit, decide_eq_true (List.mem_range.mp hi)]
theorem to_full {F : List Fk} {l : List Nat} : Full F 0 l ↔ l.length = F.length ∧ To F (2 ^ F.length - 1) l := by
  unfold Full
  rw [cnt_zero, Nat.zero_add]
  constructor
  · rintro ⟨h1, h2⟩
    have t : To F (setD l) l := ⟨h1, rfl⟩
    have := t.lt h2
    refine ⟨h2, h1, full_every this.1 this.2⟩
  · rintro ⟨h1, h2⟩
    exact ⟨h2.seq, h1⟩
theorem keyV (n d : Nat) : (keyD n d).map kV = intsV (numsD n d) := by
  unfold keyD intsV
  rw [List.map_map]
  rfl
/-! ### the law's table, set by set -/
theorem IsKeys.mem {H : Hp} {kvs : List (List Key × V)} {bs : List Addr} (h : IsKeys H kvs bs) {b : Addr} (hb : b ∈ bs) : ∃ p ∈ kvs, H b = some (.tup (p.1.map kV)) := by
  obtain ⟨j, hj⟩ := List.mem_iff_getElem?.mp hb
  obtain ⟨p, hp, hbt⟩ := L2.DX.pget h hj
  exact ⟨p, List.mem_of_getElem? hp, hbt⟩
theorem IsKeys.mem' {H : Hp} {kvs : List (List Key × V)} {bs : List Addr} (h : IsKeys H kvs bs) : ∀ {p}, p ∈ kvs → ∃ b ∈ bs, H b = some (.tup (p.1.map kV)) := by
  unfold IsKeys at h
  induction h with
  | nil => intro p hp; simp at hp
  | cons h1 h2 ih =>
    intro p hp
    rcases List.mem_cons.mp hp with rfl | hp
    · exact ⟨_, List.mem_cons_self, h1⟩
    · obtain ⟨b, hb, e⟩ := ih hp
      exact ⟨b, List.mem_cons_of_mem _ hb, e⟩
theorem perm_ints {ms : List Int} {ns : List Nat} (hp : ms.Perm (ns.map fun (n : Nat) => (n : Int))) : ∃ ks : List Nat, ms = ks.map (fun (n : Nat) => (n : Int)) ∧ ks.Perm ns := by
  refine ⟨ms.map Int.toNat, ?_, ?_⟩
  · rw [List.map_map]
    conv => lhs; rw [← List.map_id ms]
    refine List.map_congr_left fun m hm => ?_
    obtain ⟨n, _, rfl⟩ := List.mem_map.mp (hp.mem_iff.mp hm)
    rfl
  · have h := hp.map Int.toNat
    rw [List.map_map] at h
    have e : ns.map (Int.toNat ∘ fun (n : Nat) => (n : Int)) = ns := List.map_id' ns
    rwa [e] at h
theorem ints_map (ns : List Nat) : (ns.map fun (n : Nat) => (n : Int)).map V.int = intsV ns := by
  rw [List.map_map]
  rfl
theorem s_par {i j : Nat} {ta tb : TE} {D : Ends} {σ : L2.St} {H : Hp} (h : ta σ H (fun v H1 => tb σ H1 fun w H2 => ∃ v' w', [v, w] = [v', w'] ∧ D.nx ((σ.set i (some v')).set j (some w')) H2)) : tPar i j (tCons ta (tCons tb tNil)) D σ H := h
/-- tuple(sorted(done + (number,))) -/
theorem rd_key {K : PySem.W.Frag} {σ : L2.St} {H : Hp} {c : Addr} {n d i j m : Nat} {Q : VK} (h4 : σ[j]? = some (some (.ref c))) (h7 : σ[m]? = some (some (.int (i : Nat)))) (hc : H c = some (.tup ((keyD n d).map kV))) (hi : i < n) (hb : d.testBit i = false) (n8 : n ≤ 8)
    (k : ∀ a H', Ex H H' → H' a = some (.tup ((keyD n (addD d i)).map kV)) → Q (.ref a) H') :
    tCB (fun xs H Q => ∃ p ys, xs = [V.ref p] ∧ ((SqL K H p ys ∧ ∀ l, H l = none → Q (.ref l) (upd H l (.tup ys))) ∨ (SqT K H p ys ∧ Q (.ref p) H))) (tCons (tCB (rSortedTI K) (tCons (tOp (rCatA K) (tVar j) (tTup (tCons (tVar m) tNil))) tNil)) tNil) σ H Q := by
  have fin : ∀ a G, Ex H G → SqT K G a (intsV (numsD n d ++ [i])) → rSortedTI K [.ref a] G (fun v H2 => (fun xs H Q => ∃ p ys, xs = [V.ref p] ∧ ((SqL K H p ys ∧ ∀ l, H l = none → Q (.ref l) (upd H l (.tup ys))) ∨ (SqT K H p ys ∧ Q (.ref p) H))) [v] H2 Q) := fun a G e hS => by
    refine ⟨a, (numsD n d ++ [i]).map fun (n : Nat) => (n : Int), rfl, by rw [ints_map]; exact hS, fun ms s pm ps ns => ?_⟩
    obtain ⟨ks, rfl, pk⟩ := perm_ints pm
    have sk : ks.Pairwise (· ≤ ·) := by
      rw [List.pairwise_map] at ps
      exact ps.imp fun h => by omega
    have ek := nums_add hi hb pk sk
    subst ek
    rw [ints_map]
    refine ⟨s, _, rfl, .inl ⟨SqL.of upd_same, fun l fl => k l _ ((e.trans (Ex.new ns)).trans (Ex.new fl)) ?_⟩⟩
    rw [upd_same, keyV]
  refine ⟨_, h4, _, h7, by show 1 ≤ sizeLine; decide, fun b fb => ?_⟩
  have x1 := Ex.new (o := .tup [.int (i : Nat)]) fb
  have hc1 := x1 _ _ hc
  rw [keyV] at hc1
  have nl : (numsD n d).length ≤ n := by
    rw [nums_len]
    exact cnt_le _ _
  refine ⟨c, b, intsV (numsD n d), [.int (i : Nat)], rfl, rfl, SqT.of hc1, SqT.of upd_same, by rw [intsV_len]; exact Nat.le_of_lt (small1000 (by show (numsD n d).length + 1 ≤ 1000; omega)), fun e => ?_, fun _ z => absurd z (by simp), fun _ _ p fp => ?_⟩
  · have e0 : numsD n d = [] := by
      unfold intsV at e
      exact List.map_eq_nil_iff.mp e
    exact fin b _ x1 (by rw [e0]; exact SqT.of upd_same)
  · refine fin p _ (x1.trans (Ex.new fp)) (SqT.of ?_)
    rw [upd_same]
    unfold intsV
    rw [List.map_append]
    rfl
section
variable {P : Program} {w : World} {K : PySem.W.Frag} {mg : Str → Option Value} {base : Heap}
def spBy (K : PySem.W.Frag) : Sp := fun vs H Q _ => ∃ (p : Addr) (u : V) (F : List Fk), vs = [u] ∧ Dq K p H u (fsD F) ∧ FOk F ∧ (∃ l, Full F 0 l) ∧ ∀ x q H', Ex H H' → Fr K 470 q x H' → (∃ l, Full F 0 l ∧ worthF F l = q) → (∀ l, Full F 0 l → worthF F l ≤ q) → Q x H'
theorem ok__law_by_sets (T : Txt K mg) : FnOk P w K mg base CX0 3 T.d__law_by_sets.a T.d__law_by_sets.fd ["_law_forest_here"] (spBy K) := by
  refine T.d__law_by_sets.F.ok sc__law_by_sets (fun vs H Q E h => ?_) (fun cdv A outer s H vs Q E hr h => ?_)
  · obtain ⟨p, u, F, rfl, _⟩ := h
    rfl
  · obtain ⟨p, u, F, rfl, hu, ok, ⟨l0, hl0⟩, k⟩ := h
    have hu1 := hu_of hr
    refine ⟨_, (pss_cons (ps_set (i := 1) sc__law_by_sets.nd rfl (Or.inl rfl) (pe_disp1T hu1 (pps_cons (pe_tup pa_nil) (pe_tup (pa_cons (pe_tup (pa_cons pe_int (pa_cons pe_int pa_nil))) (pa_cons (pe_tup (pa_cons pe_int (pa_cons pe_int pa_nil))) pa_nil))) pps_nil) rfl rfl (by simp) (by decide)))
      (pss_cons (ps_for PassesOwn.never rfl (pi_range1 (by rfl) T.n_range (pa_cons (pe_callB call_len_seq (by rfl) T.n_len (by decide +kernel) (pa_cons (pv 0) pa_nil)) pa_nil)) (pg_name (i := 2) sc__law_by_sets.nd rfl (Or.inl rfl)) (pss_cons (ps_set (i := 3) sc__law_by_sets.nd rfl (Or.inl rfl) pe_dnewT)
      (pss_cons (ps_for PassesOwn.never rfl (pi_list (pe_callB (cr_sortDT rfl) (by rfl) T.n_sorted (by decide +kernel) (pa_cons (pv 1) pa_nil))) (pg_name (i := 4) sc__law_by_sets.nd rfl (Or.inl rfl)) (pss_cons (ps_asg (pe_dget hu1 (pv 1) (pv 4) (fun _ _ => rfl)) (pg_tup (by rfl) (pgs_cons (pg_name (i := 5) sc__law_by_sets.nd rfl (Or.inl rfl)) (pgs_cons (pg_name (i := 6) sc__law_by_sets.nd rfl (Or.inl rfl)) pgs_nil))))
      (pss_one (ps_for PassesOwn.never rfl (pi_enumT (by rfl) T.n_enumerate (pa_cons (pv 0) pa_nil)) (pg_tup (by rfl) (pgs_cons (pg_name (i := 7) sc__law_by_sets.nd rfl (Or.inl rfl)) (pgs_cons (pg_tup (by rfl) (pgs_cons (pg_name (i := 8) sc__law_by_sets.nd rfl (Or.inl rfl)) (pgs_cons (pg_name (i := 9) sc__law_by_sets.nd rfl (Or.inl rfl)) (pgs_cons (pg_name (i := 10) sc__law_by_sets.nd rfl (Or.inl rfl)) pgs_nil)))) pgs_nil))) (pss_one (ps_if (PW.pt (pw_and (pt_cmpR op_notIn_seq (pv 7) (pv 4) (by rfl)) (pw_and1 (PW.pt (pw_or (pt_cmpR op_isN (pv 8) pe_non (nomark _)) (pw_or1 (pt_cmpR op_in_seq (pv 8) (pv 4) (by rfl)))))))) (pss_cons (ps_par (i := 11) (j := 12) (by rfl) sc__law_by_sets.nd rfl rfl (by decide) rfl rfl (pa_cons (pe_callTy call_tuple_of (by rfl) T.n_tuple (by decide +kernel) (pa_cons (pe_callB cr_sortedTI (by rfl) T.n_sorted (by decide +kernel) (pa_cons (pe_op op_catA (pv 4) (pe_tup (pa_cons (pv 7) pa_nil))) pa_nil)) pa_nil)) (pa_cons (pe_call (ok__law_add T) (hr.mono (by decide)) (by rfl) T.d__law_add.g T.d__law_add.F.kp T.d__law_add.b .nil pass0 (pa_cons (pv 5) (pa_cons (pe_call (ok__law_mul T) (hr.mono (by decide)) (by rfl) T.d__law_mul.g T.d__law_mul.F.kp T.d__law_mul.b .nil pass0 (pa_cons (pv 6) (pa_cons (pv 9) pa_nil))) pa_nil))) pa_nil)) (by rfl))
      (pss_one (ps_if (PW.pt (pw_or (pt_cmp (pc_dnotin hu1 (pv 11) (pv 3))) (pw_or1 (pt_val (pe_call (ok__law_less T) (hr.mono (by decide)) (by rfl) T.d__law_less.g T.d__law_less.F.kp T.d__law_less.b .nil pass0 (pa_cons (pe_ix ix_tup (pe_dget hu1 (pv 3) (pv 11) (fun _ _ => rfl)) pe_int (fun _ _ => rfl)) (pa_cons (pv 12) pa_nil))))))) (pss_one (ps_asg (pe_tup (pa_cons (pv 12) (pa_cons (pe_call (ok__law_mul T) (hr.mono (by decide)) (by rfl) T.d__law_mul.g T.d__law_mul.F.kp T.d__law_mul.b .nil pass0 (pa_cons (pv 6) (pa_cons (pv 10) pa_nil))) pa_nil))) (pg_sub (pv 3) (pv 11) (set_dict hu1)))) pss_nil))) pss_nil))))))
      (pss_one (ps_set (i := 1) sc__law_by_sets.nd rfl (Or.inl rfl) (pv 3))))))
      (pss_one (ps_ret (pe_ix ix_tup (pe_dget hu1 (pv 1) (pe_tupRg rfl (by rfl) T.n_tuple (prg_1 (by rfl) T.n_range (pe_callB call_len_seq (by rfl) T.n_len (by decide +kernel) (pa_cons (pv 0) pa_nil)))) (fun _ _ => rfl)) pe_int (fun _ _ => rfl)))))), ?_⟩
    have l8 := ok.most
    obtain ⟨ua, uxs, rfl, huS, huA⟩ := id hu.seq
    have uxl : uxs.length = F.length := by rw [huA.len, List.length_map]
    refine n_seq ?_
    intro f nf
    refine ⟨by show 0 ≤ sizeLine; decide, fun e fe => ⟨by show 2 ≤ sizeLine; decide, fun t0 f0 => ⟨by show 2 ≤ sizeLine; decide, fun t1 f1 => ⟨by show 2 ≤ sizeLine; decide, fun t2 f2 => ?_⟩⟩⟩⟩
    have xf := Ex.new (o := .dT []) nf
    have xe := Ex.new (o := .tup []) fe
    have x0 := Ex.new (o := .tup [.int 0, .int 1]) f0
    have x1 := Ex.new (o := .tup [.int 1, .int 1]) f1
    have x2 := Ex.new (o := .tup [.ref t0, .ref t1]) f2
    refine ⟨(((xe.trans x0).trans x1).trans x2) _ _ upd_same, [], e, _, rfl, ((x0.trans x1).trans x2) _ _ upd_same, ?_⟩
    have hf2 := (((xe.trans x0).trans x1).trans x2) _ _ (upd_same (H := H) (a := f) (o := .dT []))
    have ht0 := (x1.trans x2) _ _ (upd_same (a := t0) (o := .tup [.int 0, .int 1]))
    have ht1 := x2 _ _ (upd_same (a := t1) (o := .tup [.int 1, .int 1]))
    have ht2 := (upd_same (H := upd (upd (upd (upd H f (.dT [])) e (.tup [])) t0 (.tup [.int 0, .int 1])) t1 (.tup [.int 1, .int 1])) (a := t2) (o := .tup [.ref t0, .ref t1]))
    have X2 := (((xf.trans xe).trans x0).trans x1).trans x2
    dsimp only
    generalize upd (upd (upd (upd (upd H f (.dT [])) e (.tup [])) t0 (.tup [.int 0, .int 1])) t1 (.tup [.int 1, .int 1])) t2 (.tup [.ref t0, .ref t1]) = H2 at hf2 ht0 ht1 ht2 X2
    have up0 : ExB f H2 (upd H2 f (.dT [([], .ref t2)])) := ExB.upd (ExB.refl f H2)
    have en0 : EntF K F (upd H2 f (.dT [([], .ref t2)])) 0 0 0 (.ref t2) := EntF.tb (tupd_d hf2) up0 ⟨t2, .ref t0, .ref t1, [], rfl, SqT.of ht2, ⟨_, rfl, .inl (.inl ht0), by decide, by decide⟩, (by
      rw [prodD_zero]
      exact ⟨_, rfl, .inl (.inl ht1), by decide, by decide⟩), To.nil F, rfl, rfl⟩
    have Z0 : Ex H (upd H2 f (.dT [([], .ref t2)])) := Ex.mut X2 nf
    have hf0 : (upd H2 f (.dT [([], .ref t2)])) f = some (.dT [([], .ref t2)]) := upd_same
    generalize upd H2 f (.dT [([], .ref t2)]) = G0 at up0 en0 Z0 hf0
    refine n_seq ?_
    refine ⟨_, rfl, ua, uxs, rfl, .inr (ex_t Z0 huS), (uxs.length : Int), rfl, by omega, by omega, ?_⟩
    refine for_range (lo := 0) (n := uxs.length) (fun kk σ G => ∃ f kvs ds Qs y2 y3 y4 y5 y6 y7 y8 y9 y10 y11 y12, σ = [some (.ref ua), some (.ref f), y2, y3, y4, y5, y6, y7, y8, y9, y10, y11, y12] ∧ Ex H G ∧ H f = none ∧ G f = some (.dT kvs) ∧ Ly K F G kk kvs ds Qs)
      ⟨f, _, _, _, none, none, none, none, none, none, none, none, none, none, none, rfl, Z0, nf, hf0, ly_zero en0⟩ ?_ ?_
    · rintro kk σ G hk ⟨f, kvs, ds, Qs, y2, y3, y4, y5, y6, y7, y8, y9, y10, y11, y12, rfl, ex, nf, hf, ly⟩
      refine n_name ?_
      dsimp only
      refine n_seq ?_
      intro g ng
      dsimp only
      have xg := Ex.new (o := .dT []) ng
      have nHg : H g = none := none_ex ex ng
      have nfg : f ≠ g := ne_of_none hf ng
      have kv256 := ly.tb.len l8
      refine n_seq ?_
      have kz : 1 ≤ kk ∨ kvs.length ≤ 1 := by
        by_cases c : 1 ≤ kk
        · exact .inl c
        · refine .inr ?_
          have k0 : kk = 0 := by omega
          subst k0
          have h1 := congrArg List.length ly.tb.keys
          rw [List.length_map, List.length_map] at h1
          have h2 := nodup_le ds [0] ly.tb.nd fun d hd => by
            obtain ⟨_, _, _, _, _, l, _, _, _, _, h3, h4, _⟩ := ly.tb.ent d hd
            have : l = [] := List.length_eq_zero_iff.mp h4
            subst this
            rw [← h3.set]
            simp [setD]
          rw [List.length_singleton] at h2
          omega
      have kkeys : ∀ p ∈ kvs, ∃ d ∈ ds, p.1 = keyD F.length d := fun p hp => by
        have h1 : p.1 ∈ kvs.map (·.1) := List.mem_map.mpr ⟨p, hp, rfl⟩
        rw [ly.tb.keys] at h1
        obtain ⟨d, hd, e⟩ := List.mem_map.mp h1
        exact ⟨d, hd, e.symm⟩
      refine ⟨_, rfl, kk, f, kvs, rfl, .inl (xg _ _ hf), kz, fun p hp => ?_, fun sl bs cs nsl ik pm => ⟨sl, rfl, ⟨_, SqL.of upd_same⟩, ?_⟩⟩
      · obtain ⟨d, hd, e⟩ := kkeys p hp
        refine ⟨(numsD F.length d).map fun (i : Nat) => (i : Int), ?_, ?_, fun m hm => ?_⟩
        · rw [e]
          unfold keyD
          rw [List.map_map]
          rfl
        · rw [List.length_map, nums_len]
          exact (ly.tb.lt hd).2
        · obtain ⟨i, hi, rfl⟩ := List.mem_map.mp hm
          have := (mem_nums.mp hi).1
          omega
      have ngs : g ≠ sl := ne_of_none upd_same nsl
      have xs1 := Ex.new (o := .lst (cs.map V.ref)) nsl
      have hS1 : (upd (upd G g (.dT [])) sl (.lst (cs.map V.ref))) sl = some (.lst (cs.map V.ref)) := upd_same
      have hg1 : (upd (upd G g (.dT [])) sl (.lst (cs.map V.ref))) g = some (.dT []) := xs1 _ _ upd_same
      have x1 := xg.trans xs1
      have key1 : ∀ {p : List Key × V} {c : Addr}, (upd G g (.dT [])) c = some (.tup (p.1.map kV)) → (upd (upd G g (.dT [])) sl (.lst (cs.map V.ref))) c = some (.tup (p.1.map kV)) := fun h => xs1 _ _ h
      have memc : ∀ c ∈ cs, ∃ d ∈ ds, (upd (upd G g (.dT [])) sl (.lst (cs.map V.ref))) c = some (.tup ((keyD F.length d).map kV)) := fun c hc => by
        obtain ⟨p, hp, h⟩ := IsKeys.mem ik (pm.mem_iff.mp hc)
        obtain ⟨d, hd, e⟩ := kkeys p hp
        exact ⟨d, hd, by rw [← e]; exact xs1 _ _ h⟩
      have memd : ∀ d ∈ ds, ∃ c ∈ cs, (upd (upd G g (.dT [])) sl (.lst (cs.map V.ref))) c = some (.tup ((keyD F.length d).map kV)) := fun d hd => by
        have h1 : keyD F.length d ∈ kvs.map (·.1) := by
          rw [ly.tb.keys]
          exact List.mem_map.mpr ⟨d, hd, rfl⟩
        obtain ⟨p, hp, e⟩ := List.mem_map.mp h1
        obtain ⟨b, hb, h⟩ := IsKeys.mem' ik hp
        exact ⟨b, pm.mem_iff.mpr hb, by rw [← e]; exact xs1 _ _ h⟩
      clear ik pm
      generalize upd (upd G g (.dT [])) sl (.lst (cs.map V.ref)) = G1 at hS1 hg1 x1 memc memd
      have ex1 := ex.trans x1
      have hf1 := x1 _ _ hf
      have ly1 := ly.tb.ex x1
      refine for_list (K := K) (a := sl) (xs := cs.map V.ref) (fun j σ G2 => ∃ kvs' ds' Qs' y4 y5 y6 y7 y8 y9 y10 y11 y12, σ = [some (.ref ua), some (.ref f), some (.int (0 + (kk : Nat))), some (.ref g), y4, y5, y6, y7, y8, y9, y10, y11, y12] ∧ ExB g G1 G2 ∧ G2 g = some (.dT kvs') ∧ Tb K F G2 (kk + 1) kvs' ds' Qs' ∧
          ∀ i c d, i < j → cs[i]? = some c → d ∈ ds → G1 c = some (.tup ((keyD F.length d).map kV)) → ∀ n, okD F d n = true → Cov F ds' Qs' d n)
        ⟨[], [], fun _ => 0, y4, y5, y6, y7, y8, y9, y10, y11, y12, rfl, ExB.refl _ _, hg1, ⟨rfl, List.nodup_nil, fun d hd => by simp at hd⟩, fun i c d z => absurd z (Nat.not_lt_zero _)⟩ (fun j σ G2 _ h => by
          obtain ⟨_, _, _, _, _, _, _, _, _, _, _, _, _, eb, _⟩ := h
          exact SqL.of (eb _ _ ngs.symm hS1)) ?_ ?_
      · rintro j x σ G2 hx ⟨kvs', ds', Qs', y4, y5, y6, y7, y8, y9, y10, y11, y12, rfl, eb, hg, tb, cov⟩
        rw [List.getElem?_map] at hx
        cases hcj : cs[j]? with
        | none => rw [hcj] at hx; cases hx
        | some c =>
        rw [hcj] at hx
        cases hx
        obtain ⟨d, hd, hc1⟩ := memc c (List.mem_of_getElem? hcj)
        have ncg : c ≠ g := ne_of hc1 hg1 (fun z => nomatch z)
        have hc2 := eb _ _ ncg hc1
        have hf2 := eb _ _ nfg hf1
        have ly2 := ly1.tb (tupd_d hg1) eb
        obtain ⟨v, hv, t, z5, z6, l, rfl, hS, fq, fw, to, ll, wl⟩ := ly2.ent d hd
        have gt := DGet.t hf2 hc2
        rw [hv] at gt
        refine n_name ?_
        dsimp only
        refine n_seq ?_
        refine ⟨_, rfl, _, rfl, f, .ref t, rfl, gt, t, [z5, z6], rfl, hS, rfl, _, _, rfl, _, _, rfl, rfl, ?_⟩
        dsimp only
        have topd : topQ F d = worthF F l := by rw [← ly_topQ ly hd, wl]
        have prd : prodF F l = prodD F d F.length := To.prod ll to
        have hS2x := ex_t (show Ex H H from Ex.refl H) huS
        have E2 := Ex.viaB ex1 nHg eb
        refine ⟨_, rfl, ua, uxs, rfl, ex_t E2 huS, ?_⟩
        refine for_it (walk_enumT (K := K) (a := ua) (xs := uxs)) (fun i σ G3 => ∃ kvs' ds' Qs' y7 y8 y9 y10 y11 y12, σ = [some (.ref ua), some (.ref f), some (.int (0 + (kk : Nat))), some (.ref g), some (.ref c), some z5, some z6, y7, y8, y9, y10, y11, y12] ∧ ExB g G2 G3 ∧ G3 g = some (.dT kvs') ∧ Tb K F G3 (kk + 1) kvs' ds' Qs' ∧
            (∀ i c d, i < j → cs[i]? = some c → d ∈ ds → G1 c = some (.tup ((keyD F.length d).map kV)) → ∀ n, okD F d n = true → Cov F ds' Qs' d n) ∧ ∀ n, n < i → okD F d n = true → Cov F ds' Qs' d n)
          ⟨kvs', ds', Qs', y7, y8, y9, y10, y11, y12, rfl, ExB.refl _ _, hg, tb, cov, fun n z => absurd z (Nat.not_lt_zero _)⟩ (fun i σ G3 _ h => by
            obtain ⟨_, _, _, _, _, _, _, _, _, _, eb3, _⟩ := h
            exact ex_t (Ex.viaB E2 nHg eb3) huS) ?_ ?_
        · rintro i x σ G3 G4 hi ⟨kvs', ds', Qs', y7, y8, y9, y10, y11, y12, rfl, eb3, hg3, tb3, cov3, cv3⟩ ⟨T0, nx, y, rfl, hT0, rfl, h1, h2⟩
          cases h1
          have E3 := Ex.viaB E2 nHg eb3
          obtain ⟨t', ht', qt⟩ := (DqAll.ex E3 _ _ huA).at_ h2
          have il : i < F.length := by omega
          have xT := Ex.new (o := .tup [.int (i : Nat), y]) hT0
          obtain ⟨b', w9, w10, rfl, hb', q9, q10⟩ := (Dq.ex xT _ _ qt).t3
          have f9 : Fr K 40 (payF F i) w9 (upd G3 T0 (.tup [.int (i : Nat), .ref b'])) := by
            rw [payF_at ht']
            exact q9.frq (ok.pay t' (List.mem_of_getElem? ht'))
          have f10 : Fr K 10 (facF F i) w10 (upd G3 T0 (.tup [.int (i : Nat), .ref b'])) := by
            rw [facF_at ht']
            exact q10.frq (ok.fac t' (List.mem_of_getElem? ht'))
          refine ⟨T0, _, rfl, SqT.of upd_same, rfl, _, _, rfl, _, _, rfl, b', _, rfl, hb', rfl, _, _, rfl, _, _, rfl, _, _, rfl, rfl, rfl, ?_⟩
          dsimp only
          have hg4 := xT _ _ hg3
          have hc4 := xT _ _ (eb3 _ _ ncg hc2)
          have tb4 := tb3.ex xT
          have eb4 := eb3.trans (Ex.b xT)
          have fq4 := (fq.tb (tupd_d hg) eb3).ex xT
          have fw4 := (fw.tb (tupd_d hg) eb3).ex xT
          clear hg3 tb3 eb3 qt q9 q10 hb'
          generalize upd G3 T0 (.tup [.int (i : Nat), .ref b']) = G4 at hg4 hc4 tb4 eb4 fq4 fw4 f9 f10
          have hc4V := hc4
          rw [keyV] at hc4V
          have okn : okD F d i = (!decide (i ∈ numsD F.length d) && upD t'.par d) := by
            unfold okD
            rw [decide_eq_true il, Bool.true_and, parF_at ht']
            congr 2
            rw [Bool.eq_iff_iff, decide_eq_true_iff, mem_nums]
            exact ⟨fun z => ⟨il, z⟩, fun z => z.2⟩
          have tst : EvT (tAnd (tTest (tOp (rIn K true) (tVar 7) (tVar 4))) (tOr (tTest (tOp (fun x y H Q => y = V.non ∧ Q (V.bl (decide (x = V.non))) H) (tVar 8) (tC V.non))) (tTest (tOp (rIn K false) (tVar 8) (tVar 4)))))
              [some (.ref ua), some (.ref f), some (.int (0 + (kk : Nat))), some (.ref g), some (.ref c), some z5, some z6, some (.int (i : Nat)), some (optV t'.par), some w9, some w10, y11, y12] G4 (okD F d i) := by
            rw [okn]
            refine et_and (fun H1 e Q' k' => ?_) fun _ => ?_
            · refine ⟨_, rfl, _, rfl, c, intsV (numsD F.length d), rfl, .inr (SqT.of (e _ _ hc4V)), rfl, flat_ints _, _, rfl, ?_⟩
              rw [if_pos rfl, inV_ints]
              exact k' H1 (Ex.refl _)
            · cases hp : t'.par with
              | none => exact et_is (et_or (a := true) (b := true) (fun H1 e Q' k' => ⟨_, rfl, rfl, _, rfl, k' H1 (Ex.refl _)⟩) fun z => nomatch z) rfl
              | some q =>
                have lt := ok.lt i q (by rw [parF_at ht']; exact hp)
                have eq : upD (some q) d = decide (q ∈ numsD F.length d) := by
                  rw [Bool.eq_iff_iff, decide_eq_true_iff, mem_nums]
                  exact ⟨fun z => ⟨by omega, z⟩, fun z => z.2⟩
                rw [eq]
                refine et_is (et_or (a := false) (b := decide (q ∈ numsD F.length d)) (fun H1 e Q' k' => ⟨_, rfl, rfl, _, rfl, k' H1 (Ex.refl _)⟩) fun _ => fun H1 e Q' k' => ?_) rfl
                refine ⟨_, rfl, _, rfl, c, intsV (numsD F.length d), rfl, .inr (SqT.of (e _ _ hc4V)), rfl, flat_ints _, _, rfl, ?_⟩
                rw [if_neg (by decide), show optV (some q) = .int ((q : Nat) : Int) from rfl, inV_ints]
                exact k' H1 (Ex.refl _)
          refine s_if tst (fun hok G5 e5 => ?_) (fun hok G5 e5 => ?_)
          · have hbit := okD_bit hok
            have dlt := add_lt (ly.tb.lt hd).1 il
            refine n_seq ?_
            refine s_par ?_
            refine rd_key (K := K) (j := 4) (m := 7) (σ := [some (.ref ua), some (.ref f), some (.int (0 + (kk : Nat))), some (.ref g), some (.ref c), some z5, some z6, some (.int (i : Nat)), some (optV t'.par), some w9, some w10, y11, y12]) rfl rfl (e5 _ _ hc4) il hbit l8 fun ka G6 e6 hka => ?_
            have E6 := e5.trans e6
            refine (ep_2L (K := K) (n := 612) (ep_var rfl (fq4.ex E6)) (ep_2L (n := 141) (ep_var rfl (fw4.ex E6)) (ep_var rfl (f9.ex E6)) trivial (by omega) rfl) trivial (by omega) rfl) G6 (Ex.refl _) _ fun z12 G7 e7 h12 => ?_
            refine ⟨_, _, rfl, ?_⟩
            dsimp only
            have E7 := E6.trans e7
            have hka7 := e7 _ _ hka
            have hg7 := E7 _ _ hg4
            have tb7 := tb4.ex E7
            have fw7 := fw4.ex E7
            have f107 := f10.ex E7
            have eb7 := eb4.trans (Ex.b E7)
            have ll8 : (l ++ [i]).length = kk + 1 := by rw [List.length_append, ll]; rfl
            have hn : worthF F (l ++ [i]) = Qs d + prodD F d F.length * payF F i := by rw [worth_snoc, wl, prd]
            rw [← hn] at h12
            have f12 := h12.re ((ok.bworth (l ++ [i])).mono (by omega : 2 + 52 * (l ++ [i]).length ≤ 470))
            have hnT : topQ F d + prodD F d F.length * payF F i = worthF F (l ++ [i]) := by rw [hn, topd, wl]
            clear h12 e6 e7 hka E6 tb4 fq4 fw4 f9 f10 eb4 hg4
            have tst2 : EvT (tOr (tB (tDNotIn (tVar 11) (tVar 3))) (tB (tCall (spLt K) [] E0 (tCons (tOp (rIxT K) (tDGet (tVar 3) (tVar 11)) (tC (.int 0))) (tCons (tVar 12) tNil)))))
                [some (.ref ua), some (.ref f), some (.int (0 + (kk : Nat))), some (.ref g), some (.ref c), some z5, some z6, some (.int (i : Nat)), some (optV t'.par), some w9, some w10, some (.ref ka), some z12] G7 (!decide (addD d i ∈ ds') || decide (Qs' (addD d i) < worthF F (l ++ [i]))) := by
              refine et_or (fun H1 e Q' k' => ?_) fun ha => ?_
              · have gt' := DGet.t (e _ _ hg7) (e _ _ hka7)
                refine ⟨_, rfl, _, rfl, g, _, rfl, gt', _, rfl, ?_⟩
                rw [tb7.has dlt]
                exact k' H1 (Ex.refl _)
              · have dm : addD d i ∈ ds' := of_decide_eq_true (notT ha)
                obtain ⟨v', hv', t9, x9, y9, l9, rfl, hS9, fq9, fw9, to9, ll9, wl9⟩ := tb7.ent _ dm
                refine et_B fun H1 e Q' k' => ?_
                have gt' := DGet.t (e _ _ hg7) (e _ _ hka7)
                rw [hv'] at gt'
                exact ⟨_, rfl, _, rfl, g, _, rfl, gt', t9, _, 0, x9, rfl, rfl, ex_t e hS9, rfl, _, rfl, x9, z12, 470, 470, _, _, rfl, fq9.ex e, f12.ex e, by omega, fun H' e' => k' H' e'⟩
            refine s_if tst2 (fun hb G8 e8 => ?_) (fun hb G8 e8 => ?_)
            · have le : addD d i ∈ ds' → Qs' (addD d i) ≤ worthF F (l ++ [i]) := fun dm => by
                rw [decide_eq_true dm] at hb
                have := of_decide_eq_true (p := Qs' (addD d i) < worthF F (l ++ [i])) hb
                grind
              refine ⟨_, rfl, ?_⟩
              refine (ep_2L (K := K) (n := 111) (ep_var rfl (fw7.ex e8)) (ep_var rfl (f107.ex e8)) trivial (by omega) rfl) G8 (Ex.refl _) _ fun w' G9 e9 h9 => ?_
              refine ⟨by show 2 ≤ sizeLine; decide, fun t9 ft9 => ?_⟩
              have x9 := Ex.new (o := .tup [z12, w']) ft9
              have E9 := (e8.trans e9).trans x9
              have hg9 := E9 _ _ hg7
              have hka9 := E9 _ _ hka7
              have tb9 := tb7.ex E9
              have pa : prodD F d F.length * facF F i = prodD F (addD d i) F.length := by rw [prodD_add hbit, if_pos il]
              rw [pa] at h9
              have bp := ok.bprod (l ++ [i])
              rw [To.prod ll8 (to.snoc hok)] at bp
              have en9 : EntF K F (upd G9 t9 (.tup [z12, w'])) (kk + 1) (addD d i) (worthF F (l ++ [i])) (.ref t9) := ⟨t9, z12, w', l ++ [i], rfl, SqT.of upd_same, f12.ex E9, (h9.ex x9).re (bp.mono (by omega)), to.snoc hok, ll8, rfl⟩
              generalize upd G9 t9 (.tup [z12, w']) = GA at E9 hg9 hka9 tb9 en9
              have up := ExB.upd (o := .dT (putK kvs' (keyD F.length (addD d i)) (.ref t9))) (ExB.refl g GA)
              refine ⟨_, rfl, _, rfl, g, _, rfl, DPut.t hg9 hka9 (small1000 (by have := tb9.len l8; omega)), ?_⟩
              refine ⟨_, _, _, _, _, _, _, _, _, rfl, (eb7.trans (Ex.b E9)).trans up, upd_same, (tb9.put en9).tb (tupd_d hg9) up, fun i' c' d' h1 h2 h3 h4 n h5 => (cov3 i' c' d' h1 h2 h3 h4 n h5).put le, fun n hn1 hn2 => ?_⟩
              by_cases c0 : n < i
              · exact (cv3 n c0 hn2).put le
              · have : n = i := by omega
                subst this
                refine ⟨mem_addS.mpr (.inr rfl), ?_⟩
                unfold setQ
                rw [if_pos rfl, hnT]
                exact Rat.le_refl
            · refine n_next ?_
              rw [Bool.or_eq_false_iff] at hb
              have dm : addD d i ∈ ds' := of_decide_eq_true (notT hb.1)
              have ge := of_decide_eq_false hb.2
              refine ⟨_, _, _, _, _, _, _, _, _, rfl, eb7.trans (Ex.b e8), e8 _ _ hg7, tb7.ex e8, cov3, fun n hn1 hn2 => ?_⟩
              by_cases c0 : n < i
              · exact cv3 n c0 hn2
              · have : n = i := by omega
                subst this
                refine ⟨dm, ?_⟩
                rw [hnT]
                grind
          · refine n_next ?_
            refine ⟨_, _, _, _, _, _, _, _, _, rfl, eb4.trans (Ex.b e5), e5 _ _ hg4, tb4.ex e5, cov3, fun n hn1 hn2 => ?_⟩
            by_cases c0 : n < i
            · exact cv3 n c0 hn2
            · have : n = i := by omega
              subst this
              rw [hok] at hn2
              cases hn2
        · rintro σ G3 ⟨kvs', ds', Qs', y7, y8, y9, y10, y11, y12, rfl, eb3, hg3, tb3, cov3, cv3⟩
          rw [uxl] at cv3
          refine ⟨kvs', ds', Qs', _, _, _, _, _, _, _, _, _, rfl, eb.trans eb3, hg3, tb3, fun i' c' d' hij hci hd' hcd n hn => ?_⟩
          by_cases c0 : i' < j
          · exact cov3 i' c' d' c0 hci hd' hcd n hn
          · have : i' = j := by omega
            subst this
            rw [hcj] at hci
            cases hci
            rw [hc1] at hcd
            have e1 := HO.tup.inj (Option.some.inj hcd)
            rw [keyV, keyV] at e1
            have e2 : numsD F.length d = numsD F.length d' := by
              unfold intsV at e1
              refine (List.map_inj_right (f := fun (n : Nat) => V.int n) (fun a b e => ?_)).mp e1
              have := V.int.inj e
              omega
            have e3 := nums_inj (ly.tb.lt hd).1 (ly.tb.lt hd').1 e2
            subst e3
            exact cv3 n (okD_lt hn) hn
      · rintro σ G2 ⟨kvs', ds', Qs', y4, y5, y6, y7, y8, y9, y10, y11, y12, rfl, eb, hg, tb, cov⟩
        rw [List.length_map] at cov
        refine ⟨_, rfl, g, kvs', ds', Qs', _, _, _, _, _, _, _, _, _, _, _, rfl, Ex.viaB ex1 nHg eb, nHg, hg, ly_next tb (fun d l h hl => ?_) fun d l n h hl hn => ?_⟩
        · have hd := ly.all d l h hl
          rw [← ly_topQ ly hd]
          exact ly.top d hd
        · have hd := ly.all d l h hl
          obtain ⟨c, hc, e⟩ := memd d hd
          obtain ⟨i, hi⟩ := List.mem_iff_getElem?.mp hc
          exact cov i c d (List.getElem?_eq_some_iff.mp hi).1 hi hd e n hn
    · rintro σ G ⟨f, kvs, ds, Qs, y2, y3, y4, y5, y6, y7, y8, y9, y10, y11, y12, rfl, ex, nf, hf, ly⟩
      rw [uxl] at ly
      obtain ⟨ll0, to0⟩ := to_full.mp hl0
      have dm := ly.all _ _ to0 ll0
      obtain ⟨v, hv, t, x, y, l, rfl, hS, fq, _, to, ll, wl⟩ := ly.tb.ent _ dm
      have rg0 : rgV 0 (uxs.length : Int) = intsV (List.range F.length) := by
        unfold rgV intsV
        rw [uxl, show ((F.length : Int) - 0).toNat = F.length by omega]
        exact List.map_congr_left fun i _ => by rw [Int.zero_add]
      refine ⟨_, rfl, _, rfl, ua, uxs, rfl, .inr (ex_t ex huS), (uxs.length : Int), rfl, ?_, fun q0 fq0 => ?_⟩
      · exact RgOk.of_le (by omega) (by omega) (by omega) (by omega)
      have xq := Ex.new (o := .tup (rgV 0 (uxs.length : Int))) fq0
      have hq : (upd G q0 (.tup (rgV 0 (uxs.length : Int)))) q0 = some (.tup ((keyD F.length (2 ^ F.length - 1)).map kV)) := by
        rw [upd_same, rg0, keyV, nums_full]
      have gt := DGet.t (xq _ _ hf) hq
      rw [hv] at gt
      refine ⟨f, _, rfl, gt, t, _, 0, x, rfl, rfl, ex_t xq hS, rfl, ?_⟩
      have tp := ly.top _ dm
      refine k x _ _ (ex.trans xq) (fq.ex xq) ?_ fun l' hl' => ?_
      · exact ⟨l, to_full.mpr ⟨ll, to⟩, wl⟩
      · exact tp.most l' (to_full.mp hl').2
end
/-! ### the law k54: what it is asked -/
def sixF : List Fk := [⟨none, -2, 1⟩, ⟨none, 2, 1⟩, ⟨none, 0, 1 / 2⟩, ⟨none, 0, 1⟩, ⟨none, 0, 1⟩, ⟨none, 0, 1⟩]
def loneF : List Fk := (List.range 8).map fun (k : Nat) => ⟨none, ((k : Int) : Rat), 1 / 2⟩
theorem six_best : ∀ l ∈ rowsF sixF 6, worthF sixF l ≤ 1 := by decide +kernel
theorem six_in : [1, 2, 0, 3, 4, 5] ∈ rowsF sixF 6 := by decide +kernel
theorem six_one : worthF sixF [1, 2, 0, 3, 4, 5] = 1 := by decide +kernel
def descN (d : Nat) : List Nat := ((List.range 8).filter fun i => !d.testBit i).reverse
theorem lone_step : ∀ d ∈ List.range 256, ∀ i ∈ List.range 8, d.testBit i = true ∨ payF loneF i + facF loneF i * worthF loneF (descN (addD d i)) < worthF loneF (descN d) ∨ descN d = i :: descN (addD d i) := by decide +kernel
theorem lone_full : ∀ (l : List Nat) (d : Nat), d < 256 → Full loneF d l → worthF loneF l ≤ worthF loneF (descN d) ∧ (worthF loneF l = worthF loneF (descN d) → l = descN d)
  | [], d, hd, h => by
    have h2 := h.2
    have h3 : cntD d 8 = 8 := by simpa [loneF] using h2
    have h4 : d = 255 := full_every (n := 8) hd h3
    subst h4
    exact ⟨by decide +kernel, fun _ => by decide +kernel⟩
  | i :: r, d, hd, h => by
    obtain ⟨h1, h2⟩ := full_cons.mp h
    have hi : i < 8 := okD_lt h1
    have hb := okD_bit h1
    have hd2 : addD d i < 256 := add_lt (n := 8) hd hi
    obtain ⟨a, b⟩ := lone_full r (addD d i) hd2 h2
    have s := lone_step d (List.mem_range.mpr hd) i (List.mem_range.mpr hi)
    have f : facF loneF i = 1 / 2 := by
      have : ∀ i ∈ List.range 8, facF loneF i = 1 / 2 := by decide +kernel
      exact this i (List.mem_range.mpr hi)
    have e : worthF loneF (i :: r) = payF loneF i + facF loneF i * worthF loneF r := rfl
    rw [e]
    rw [f] at s ⊢
    rcases s with s | s | s
    · rw [hb] at s
      cases s
    · constructor
      · grind
      · intro z
        exfalso
        grind
    · rw [s]
      have e2 : worthF loneF (i :: descN (addD d i)) = payF loneF i + facF loneF i * worthF loneF (descN (addD d i)) := rfl
      rw [e2, f]
      constructor
      · grind
      · intro z
        rw [b (by grind)]
theorem lone_desc : descN 0 = [7, 6, 5, 4, 3, 2, 1, 0] := by decide +kernel
theorem lone_in : Full loneF 0 [7, 6, 5, 4, 3, 2, 1, 0] := ⟨by decide +kernel, by decide +kernel⟩
theorem lone_one (l : List Nat) (h : Full loneF 0 l) (m : ∀ l', Full loneF 0 l' → worthF loneF l' ≤ worthF loneF l) : l = [7, 6, 5, 4, 3, 2, 1, 0] := by
  obtain ⟨a, b⟩ := lone_full l 0 (by decide) h
  have c := m _ lone_in
  rw [lone_desc] at a b
  exact b (Rat.le_antisymm a c)
theorem frd_of {q : Rat} {n m : Int} (h1 : q.num = n) (h2 : (q.den : Int) = m) : frd q = .tuple [.int n, .int m] := by
  subst h1 h2
  rfl
theorem seqB_full {F : List Fk} {l : List Nat} (h : Full F 0 l) : seqB F (.list (intsD l)) = true := by
  have := (mem_rows F F.length l).mp (full_iff.mp h)
  rw [seqB_ints, this.2, decide_eq_true this.1]
  rfl
theorem full_lt {F : List Fk} {l : List Nat} (h : Full F 0 l) : (∀ n ∈ l, n < F.length) ∧ l.length = F.length := by
  have := (mem_rows F F.length l).mp (full_iff.mp h)
  exact ⟨seqL_lt F l [] this.2, this.1⟩
theorem nc_fr {b : Nat} {q : Rat} (h : Bd b q) (h0 : 0 < b) (h1 : b ≤ 1900) : Nc (2 * b + 12) 1 (frd q) := nc_pair h.1 (bd_den h) h0 h1
/-- deep equality: a list of numbers among lists of numbers -/
theorem eqv_ints : ∀ a : List Nat, PyData.eqvAll (intsD a) (intsD a) = true
  | [] => rfl
  | n :: a => by
    show (PyData.eqv (.int (n : Nat)) (.int (n : Nat)) && PyData.eqvAll (intsD a) (intsD a)) = true
    rw [eqv_ints a]
    simp [PyData.eqv]
theorem lay_ints : ∀ a : List Nat, PyData.canLayAll0 (intsD a) = true
  | [] => rfl
  | n :: a => by
    show (true && PyData.canLayAll0 (intsD a)) = true
    rw [lay_ints a]
    rfl
theorem dep_ints : ∀ a : List Nat, PyData.depthAll (intsD a) ≤ 1
  | [] => by simp [intsD, PyData.depthAll]
  | n :: a => by
    have := dep_ints a
    show PyData.depthAll (.int (n : Nat) :: intsD a) ≤ 1
    simp only [PyData.depthAll, PyData.depth]
    omega
def ordsD (F : List Fk) : List PyData := (rowsF F F.length).map fun r => .list (intsD r)
theorem shp1 (r : List Nat) : SeqAt.shaped (.list (intsD r)) = true := by
  have := dep_ints r
  show (PyData.canLayAll0 (intsD r) && decide (PyData.depth (.list (intsD r)) ≤ 64)) = true
  rw [lay_ints, Bool.true_and, decide_eq_true_iff]
  simp only [PyData.depth]
  omega
theorem lay_rows : ∀ rs : List (List Nat), PyData.canLayAll0 (rs.map fun r => .list (intsD r)) = true ∧ PyData.depthAll (rs.map fun r => .list (intsD r)) ≤ 3
  | [] => ⟨rfl, by simp [PyData.depthAll]⟩
  | r :: rs => by
    obtain ⟨h1, h2⟩ := lay_rows rs
    have h3 := dep_ints r
    constructor
    · show (PyData.canLayAll0 (intsD r) && PyData.canLayAll0 (rs.map fun r => .list (intsD r))) = true
      rw [lay_ints, h1]
      rfl
    · show PyData.depthAll (.list (intsD r) :: rs.map fun r => .list (intsD r)) ≤ 3
      simp only [PyData.depthAll, PyData.depth]
      omega
theorem shp2 (F : List Fk) : SeqAt.shaped (.list (ordsD F)) = true := by
  obtain ⟨h1, h2⟩ := lay_rows (rowsF F F.length)
  show (PyData.canLayAll0 (ordsD F) && decide (PyData.depth (.list (ordsD F)) ≤ 64)) = true
  unfold ordsD
  rw [h1, Bool.true_and, decide_eq_true_iff]
  simp only [PyData.depth]
  omega
theorem any_ord {F : List Fk} {l : List Nat} (h : Full F 0 l) : ((ordsD F).any fun z => PyData.eqv z (.list (intsD l))) = true := by
  rw [List.any_eq_true]
  refine ⟨.list (intsD l), List.mem_map.mpr ⟨l, full_iff.mp h, rfl⟩, ?_⟩
  simp only [PyData.eqv]
  exact eqv_ints l
theorem hd_ints : ∀ l : List Nat, PyData.hasDictAll (intsD l) = false
  | [] => rfl
  | n :: l => by
    show (false || PyData.hasDictAll (intsD l)) = false
    rw [hd_ints l]
    rfl
theorem hd_rows : ∀ rs : List (List Nat), PyData.hasDictAll (rs.map fun r => .list (intsD r)) = false
  | [] => rfl
  | r :: rs => by
    show (PyData.hasDictAll (intsD r) || PyData.hasDictAll (rs.map fun r => .list (intsD r))) = false
    rw [hd_ints, hd_rows rs]
    rfl
theorem LstD0.dp {K : PySem.W.Frag} {p : Addr} {H : Hp} {v : V} {ds : List PyData} (h : LstD0 K p ds v H) (hd : PyData.hasDictAll ds = false) : Dp K H v (.list ds) := by
  obtain ⟨l, vs, rfl, _, h, q⟩ := h
  exact .lst (SqL.of h) (DqAll.dp _ _ hd q)
theorem nca_of {c e : Nat} : ∀ {ds : List PyData}, (∀ d ∈ ds, Nc c e d) → NcA (ds.length * (c + 2)) e ds
  | [], _ => by simpa using nca_nil
  | d :: ds, h => by
    have h1 := nca_cons (h d List.mem_cons_self) (nca_of fun x hx => h x (List.mem_cons_of_mem _ hx))
    refine ⟨h1.sh, h1.dp, ?_⟩
    have := h1.co
    rw [List.length_cons, Nat.succ_mul]
    omega
theorem units65 {k : Nat} {A : Around} (r : Room k A) : A.units + 65 < cLine := by have := r.un; omega
theorem intsD_len (a : List Nat) : (intsD a).length = a.length := List.length_map ..
theorem Rs.dq {K : PySem.W.Frag} {H0 G : Hp} {D p : Addr} {o : HO} (hp : H0 p = some o) : ∀ {as : List Addr} {rss : List (List Nat)}, Rs H0 D G as rss → DqAll K p G (as.map V.ref) (rss.map fun r => .list (intsD r))
  | [], [], _ => .nil
  | a :: as, r :: rss, h => by
    obtain ⟨h1, h2, h3, h4⟩ := h.2 0 a r rfl rfl
    refine .cons (.lst (fun z => by rw [z, hp] at h3; cases h3) h2 h1 (ints_dq r)) (Rs.dq hp ⟨by have := h.1; simpa using this, fun i b s hb hs => h.2 (i + 1) b s hb hs⟩)
  | [], r :: rss, h => by have := h.1; simp at this
  | a :: as, [], h => by have := h.1; simp at this
def EvTX (Ts : List Addr) (t : TT) (σ : L2.St) (H : Hp) (b : Bool) : Prop := ∀ H1, ExT H H1 → TBs Ts H1 → ∀ Q : Bool → Hp → Prop, (∀ H2, ExT H1 H2 → TBs Ts H2 → Q b H2) → t σ H1 Q
def EvFX (K : PySem.W.Frag) (Ts : List Addr) (te : TE) (σ : L2.St) (H : Hp) (b : Nat) (q : Rat) : Prop := ∀ H1, ExT H H1 → TBs Ts H1 → ∀ Q : VK, (∀ x H2, ExT H1 H2 → TBs Ts H2 → Fr K b q x H2 → Q x H2) → te σ H1 Q
theorem ifF {c : Bool} {A B : Prop} (h : c = false) (x : B) : if c = true then A else B := by
  subst h
  exact x
theorem Pen.xt {H H' : Hp} {p a : Addr} {N : Nat} (e : ExT H H') (h : Pen H p a N) : Pen H' p a N := by
  obtain ⟨cs, t, v, h1, h2, r⟩ := h
  exact ⟨cs, t, v, e.l h1, e.l h2, r⟩
theorem LstD0.xt {K : PySem.W.Frag} {p : Addr} {H H' : Hp} {ds : List PyData} {v : V} (e : ExT H H') (h : LstD0 K p ds v H) : LstD0 K p ds v H' := by
  obtain ⟨l, vs, rfl, n, h, q⟩ := h
  exact ⟨l, vs, rfl, n, e.l h, DqAll.xt e _ _ q⟩
/-- the greatest worth of an order -/
structure IsMax (F : List Fk) (q : Rat) : Prop where
  has : ∃ l, Full F 0 l ∧ worthF F l = q
  most : ∀ l, Full F 0 l → worthF F l ≤ q
theorem IsMax.eq {F : List Fk} {q r : Rat} (h : IsMax F q) (h' : IsMax F r) : q = r := by
  obtain ⟨l, f, g⟩ := h.has
  obtain ⟨l', f', g'⟩ := h'.has
  have a := h'.most l f
  have b := h.most l' f'
  grind
theorem max_of {F : List Fk} {l : List Nat} (h : Full F 0 l) (m : ∀ l', Full F 0 l' → worthF F l' ≤ worthF F l) : IsMax F (worthF F l) := ⟨⟨l, h, rfl⟩, m⟩
theorem max_list (F : List Fk) : ∀ ls : List (List Nat), ls ≠ [] → ∃ l ∈ ls, ∀ l' ∈ ls, worthF F l' ≤ worthF F l
  | [], h => absurd rfl h
  | [l], _ => ⟨l, List.mem_cons_self, fun l' h => by rw [List.mem_singleton.mp h]; exact Rat.le_refl⟩
  | l :: m :: ls, _ => by
    obtain ⟨k, hk, hm⟩ := max_list F (m :: ls) (by simp)
    by_cases c : worthF F k ≤ worthF F l
    · refine ⟨l, List.mem_cons_self, fun l' h => ?_⟩
      rcases List.mem_cons.mp h with rfl | h
      · exact Rat.le_refl
      · exact Rat.le_trans (hm l' h) c
    · refine ⟨k, List.mem_cons_of_mem _ hk, fun l' h => ?_⟩
      rcases List.mem_cons.mp h with rfl | h
      · grind
      · exact hm l' h
theorem rows_ne {F : List Fk} (ok : FOk F) : ∃ l, l ∈ rowsF F F.length := by
  have key : ∀ n d, F.length - cntD d F.length ≤ n → d < 2 ^ F.length → ∃ l, Full F d l := by
    intro n
    induction n with
    | zero =>
      intro d hc hd
      have := cnt_le d F.length
      exact ⟨[], rfl, by show cntD d F.length + 0 = F.length; omega⟩
    | succ n ih =>
      intro d hc hd
      by_cases e : d = 2 ^ F.length - 1
      · subst e
        exact ⟨[], rfl, by show cntD _ F.length + 0 = F.length; rw [cnt_every _ _ (Nat.le_refl _)]; rfl⟩
      · obtain ⟨i, hi⟩ := open_one ok.lt hd e
        obtain ⟨l, hl⟩ := ih (addD d i) (by rw [okD_cnt hi]; omega) (add_lt hd (okD_lt hi))
        exact ⟨i :: l, full_cons.mpr ⟨hi, hl⟩⟩
  obtain ⟨l, hl⟩ := key F.length 0 (by omega) (Nat.two_pow_pos _)
  exact ⟨l, full_iff.mp hl⟩
theorem max_ex {F : List Fk} (ok : FOk F) : ∃ q, IsMax F q := by
  obtain ⟨l0, h0⟩ := rows_ne ok
  obtain ⟨l, hl, hm⟩ := max_list F (rowsF F F.length) (fun z => by rw [z] at h0; simp at h0)
  exact ⟨_, max_of (full_iff.mpr hl) fun l' h' => hm l' (full_iff.mp h')⟩
section
variable {K : PySem.W.Frag} {p : Addr} {Ts : List Addr} {σ : L2.St} {H : Hp} {v : V} {F : List Fk} {i j b c : Nat} {q : Rat} {E E' : XK} {xp : List V} {te ta tb : TE} {t u tu : TS} {D : Ends}
theorem fx_ep (h : ∀ G, ExT H G → EvP te σ G (Fr K b q)) : EvFX K Ts te σ H b q := fun H1 e1 t1 Q k => h H1 e1 H1 (Ex.refl _) Q fun x H2 e2 f => k x H2 (Ex.t e2) (t1.ex e2) f
theorem fx_var (hv : σ[i]? = some (some v)) (hf : Fr K b q v H) : EvFX K Ts (tVar i) σ H b q := fx_ep fun G e => ep_var hv (hf.xt e)
theorem fx_bw (hv : σ[i]? = some (some v)) (hd : Dq K p H v (fsD F)) (ok : FOk F) (hm : IsMax F q) : EvFX K Ts (tCall (spBW K Ts) [] E (tCons (tVar i) tNil)) σ H 470 q := fun H1 e1 t1 Q k =>
  ⟨_, hv, p, v, F, rfl, Dq.xt e1 _ _ hd, ok, t1, fun x ord H2 e2 t2 fx full most => k x H2 e2 t2 (by rw [hm.eq (max_of full most)]; exact fx)⟩
theorem fx_ow (hx : H p = some (.lst xp)) (hv : σ[i]? = some (some v)) (hd : Dq K p H v (fsD F)) (ok : FOk F) (hm : IsMax F q) : EvFX K Ts (tCall (spOW K Ts) [] E (tCons (tVar i) (tCons (tCall (spBO K Ts) [] E' (tCons (tVar i) tNil)) tNil))) σ H 470 q := fun H1 e1 t1 Q k =>
  ⟨_, hv, _, hv, p, v, F, rfl, Dq.xt e1 _ _ hd, ok, t1, fun l ord H2 e2 t2 new lm hl full most => ⟨p, v, l, F, ord, rfl, Dq.xt (e1.trans e2) _ _ hd, ok, hl, new p _ (e1.l hx) (fun _ z => nomatch z), lm, (full_lt full).2, ((mem_rows F F.length ord).mp (full_iff.mp full)).2, t2, fun x H3 e3 t3 fx => k x H3 (e2.trans e3) t3 (by rw [hm.eq (max_of full most)]; exact fx)⟩⟩
theorem fx_by (hv : σ[i]? = some (some v)) (hd : Dq K p H v (fsD F)) (ok : FOk F) (hm : IsMax F q) : EvFX K Ts (tCall (spBy K) [] E (tCons (tVar i) tNil)) σ H 470 q := fun H1 e1 t1 Q k =>
  ⟨_, hv, p, v, F, rfl, Dq.xt e1 _ _ hd, ok, hm.has.elim fun l h => ⟨l, h.1⟩, fun x r H2 e2 fx has most => k x H2 (Ex.t e2) (t1.ex e2) (by rw [hm.eq ⟨has, most⟩]; exact fx)⟩
theorem tx_neF (ha : EvFX K Ts ta σ H b q) (hb : EvFX K Ts tb σ H c q) : EvTX Ts (tTest (tOp (rNeD K) ta tb)) σ H false := fun H1 e1 t1 Q k =>
  ha H1 e1 t1 _ fun x H2 e2 t2 f => hb H2 (e1.trans e2) t2 _ fun y H3 e3 t3 g => ⟨_, _, (f.xt e3).dp, g.dp, rfl, rfl, _, rfl, by
    rw [eqv_fr, decide_eq_true rfl]
    exact k H3 (e2.trans e3) t3⟩
theorem tx_or {t u : TT} (h1 : EvTX Ts t σ H false) (h2 : EvTX Ts u σ H false) : EvTX Ts (tOr t u) σ H false := fun H1 e1 t1 Q k =>
  h1 H1 e1 t1 _ fun H2 e2 t2 => ifF rfl (h2 H2 (e1.trans e2) t2 _ fun H3 e3 t3 => k H3 (e2.trans e3) t3)
theorem tx_et {t : TT} (h : ∀ G, ExT H G → EvT t σ G false) : EvTX Ts t σ H false := fun H1 e1 t1 Q k => h H1 e1 H1 (Ex.refl _) Q fun H2 e2 => k H2 (Ex.t e2) (t1.ex e2)
theorem s_skipX {t : TT} (h : EvTX Ts t σ H false) (ht : TBs Ts H) (k : ∀ G, ExT H G → TBs Ts G → D.nx σ G) : tIfS t tu tNext D σ H := h H (ExT.refl _) ht _ fun G e1 t1 => ifF rfl (n_next (k G e1 t1))
end
/-- a forest's text is not too long -/
theorem nc_opt {o : Option Nat} (h : ∀ q, o = some q → q < 8) : Nc 20 0 (optD o) := by
  cases o with
  | none => exact nc_none.mono (by decide) (by decide)
  | some q => exact (nc_int (n := (q : Int)) (b := 8) (by
      have h8 := h q rfl
      show (q : Int).natAbs < 256
      omega) (by decide) (by decide)).mono (by decide) (by decide)
theorem fs_nc {F : List Fk} (ok : FOk F) : Nc 900000 60 (fsD F) := by
  have h1 : ∀ d ∈ F.map tkD, Nc 1000 4 d := fun d hd => by
    obtain ⟨t, ht, rfl⟩ := List.mem_map.mp hd
    obtain ⟨i, hi⟩ := List.getElem?_of_mem ht
    have il : i < F.length := (List.getElem?_eq_some_iff.mp hi).1
    have l8 := ok.most
    have no := nc_opt (o := t.par) fun q hq => by
      have := ok.lt i q (by rw [parF_at hi]; exact hq)
      omega
    have n1 := nc_fr (ok.pay t ht) (by omega) (by omega)
    have n2 := nc_fr (ok.fac t ht) (by omega) (by omega)
    exact (nc_tup (nca_cons (no.mono (Nat.le_refl _) (by decide : 0 ≤ 1)) (nca_cons n1 (nca_cons n2 nca_nil)))).mono (by omega) (by omega)
  have h2 := nca_of h1
  have l8 := ok.most
  refine (nc_tup h2).mono ?_ (by decide)
  rw [List.length_map]
  omega
section
variable {K : PySem.W.Frag} {p : Addr} {σ : L2.St} {H : Hp} {ta tb te : TE} {ds es : List PyData} {d : PyData} {v : V} {i : Nat}
theorem DqAll.reps : ∀ (n : Nat) {xs : List V} {ds : List PyData}, DqAll K p H xs ds → DqAll K p H (List.replicate n xs).flatten (List.replicate n ds).flatten
  | 0, _, _, _ => .nil
  | n + 1, _, _, h => by
    rw [List.replicate_succ, List.replicate_succ, List.flatten_cons, List.flatten_cons]
    exact h.append (DqAll.reps n h)
theorem ed_repN {n : Nat} (h : EvD K p te σ H (.tuple ds)) (n0 : ds ≠ []) (n2 : 2 ≤ n) (n9 : n ≤ 1000) (hl : ds.length ≤ 1000) : EvD K p (tOp (rRepT K) te (tC (.int (n : Nat)))) σ H (.tuple (List.replicate n ds).flatten) := fun H1 e1 Q k =>
  h H1 e1 _ fun x H2 e2 q => by
    obtain ⟨a, xs, rfl, hS, hA⟩ := q.seq
    have xl := hA.len
    refine ⟨a, _, xs, rfl, rfl, hS, fun z => ?_, by omega, by omega, by omega, fun t ft => ?_⟩
    · subst z
      cases hA
      exact n0 rfl
    · have x1 := Ex.new (o := .tup (List.replicate (n : Int).toNat xs).flatten) ft
      exact k _ _ (e2.trans x1) (.tup (SqT.of upd_same) (DqAll.ex x1 _ _ (hA.reps n)))
theorem ed_catT (h : EvD K p ta σ H (.tuple ds)) (g : EvD K p tb σ H (.tuple es)) (n1 : ds ≠ []) (n2 : es ≠ []) (hl : ds.length + es.length ≤ 1000) : EvD K p (tOp (rCatT K) ta tb) σ H (.tuple (ds ++ es)) := fun H1 e1 Q k =>
  h H1 e1 _ fun x H2 e2 q => g H2 (e1.trans e2) _ fun y H3 e3 r => by
    obtain ⟨a, xs, rfl, hS, hA⟩ := (Dq.ex e3 _ _ q).seq
    obtain ⟨b, ys, rfl, hT, hB⟩ := r.seq
    have xl := hA.len
    have yl := hB.len
    refine ⟨a, b, xs, ys, rfl, rfl, hS, hT, fun z => ?_, Nat.le_of_lt (small1000 (by omega)), fun z => ?_, fun _ t ft => ?_⟩
    · subst z
      cases hA
      exact n1 rfl
    · subst z
      cases hB
      exact absurd rfl n2
    · have x1 := Ex.new (o := .tup (xs ++ ys)) ft
      exact k _ _ ((e2.trans e3).trans x1) (.tup (SqT.of upd_same) ((DqAll.ex x1 _ _ hA).append (DqAll.ex x1 _ _ hB)))
theorem ev_repr {c e : Nat} (h : EvD K p te σ H d) (n : Nc c e d) (hc : c ≤ 1000000) (he : e ≤ 60) : Ev (tCB (rRepr K) (tCons te tNil)) σ H (.str d.shown) := fun H1 a Q k =>
  h H1 a _ fun v H2 e2 q => ⟨v, d, p, rfl, .inl q, n.sh, Nat.le_trans n.dp he, Nat.le_trans (n.len hc) (Nat.le_trans hc (by decide)), k H2 e2⟩
end
/-! the written forests -/
def sixD : List PyData := [.tuple [.none, .tuple [.int (-2), .int 1], .tuple [.int 1, .int 1]], .tuple [.none, .tuple [.int 2, .int 1], .tuple [.int 1, .int 1]], .tuple [.none, .tuple [.int 0, .int 1], .tuple [.int 1, .int 2]]]
def restD : List PyData := [.tuple [.none, .tuple [.int 0, .int 1], .tuple [.int 1, .int 1]]]
theorem six_eq : fsD sixF = .tuple (sixD ++ (List.replicate 3 restD).flatten) := by
  show PyData.tuple [.tuple [.none, frd (-2), frd 1], .tuple [.none, frd 2, frd 1], .tuple [.none, frd 0, frd (1 / 2)], .tuple [.none, frd 0, frd 1], .tuple [.none, frd 0, frd 1], .tuple [.none, frd 0, frd 1]] = _
  rw [frd_of (q := -2) (n := -2) (m := 1) (by decide +kernel) (by decide +kernel), frd_of (q := 2) (n := 2) (m := 1) (by decide +kernel) (by decide +kernel), frd_of (q := 1) (n := 1) (m := 1) (by decide +kernel) (by decide +kernel), frd_of (q := 0) (n := 0) (m := 1) (by decide +kernel) (by decide +kernel), frd_of (q := 1 / 2) (n := 1) (m := 2) (by decide +kernel) (by decide +kernel)]
  rfl
theorem tok_all (F : List Fk) (h : ∀ i ∈ List.range F.length, (F[i]?.all fun t => decide (t.par = none) && (decide (t.pay.num.natAbs < 2 ^ 40) && decide (t.pay.den < 2 ^ 40)) && (decide (t.fac.num.natAbs < 2 ^ 10) && decide (t.fac.den < 2 ^ 10)) && decide (0 ≤ t.fac)) = true) : ∀ i t, F[i]? = some t → TOk i t := fun i t hi => by
  have il := (List.getElem?_eq_some_iff.mp hi).1
  have := h i (List.mem_range.mpr il)
  rw [hi] at this
  simp only [Option.all_some, Bool.and_eq_true, decide_eq_true_eq] at this
  obtain ⟨⟨⟨h1, h2, h3⟩, h4, h5⟩, h6⟩ := this
  exact ⟨fun q hq => (by rw [h1] at hq; cases hq), ⟨h2, h3⟩, ⟨h4, h5⟩, h6⟩
theorem six_ok : FOk sixF := fok_of (by decide) (by decide) (tok_all _ (by decide +kernel))
theorem lone_ok : FOk loneF := fok_of (by decide) (by decide) (tok_all _ (by decide +kernel))
theorem six_max : IsMax sixF 1 := ⟨⟨_, full_iff.mpr six_in, six_one⟩, fun l h => six_best l (full_iff.mp h)⟩
theorem lone_at {i : Nat} (h : i < 8) : tkD ⟨none, ((i : Int) : Rat), 1 / 2⟩ = .tuple [.none, .tuple [.int (i : Int), .int 1], .tuple [.int 1, .int 2]] := by
  show PyData.tuple [.none, frd ((i : Int) : Rat), frd (1 / 2)] = _
  rw [frd_of (q := ((i : Int) : Rat)) (n := i) (m := 1) rfl rfl, frd_of (q := 1 / 2) (n := 1) (m := 2) (by decide +kernel) (by decide +kernel)]
section
variable {K : PySem.W.Frag} {p l : Addr} {Ts : List Addr} {σ : L2.St} {H H' : Hp} {v x : V} {F : List Fk} {i j b : Nat} {q : Rat} {E : XK} {ns : List Nat} {xs zs : List V} {qs : List Rat}
theorem AllFr.snoc (h : AllFr K b H xs qs) (f : Fr K b q x H) : AllFr K b H (xs ++ [x]) (qs ++ [q]) := by
  refine ⟨by rw [List.length_append, List.length_append, h.1]; rfl, fun n y r hy hr => ?_⟩
  by_cases c : n < xs.length
  · rw [List.getElem?_append_left c] at hy
    rw [List.getElem?_append_left (by rw [← h.1]; exact c)] at hr
    exact h.2 n y r hy hr
  · rw [List.getElem?_append_right (by omega)] at hy
    rw [List.getElem?_append_right (by rw [← h.1]; omega), ← h.1] at hr
    have e0 : n - xs.length = 0 := by
      cases hh : n - xs.length with
      | zero => rfl
      | succ m => rw [hh] at hy; cases hy
    rw [e0] at hy hr
    cases hy
    cases hr
    exact f
theorem AllFr.lst (hp : H p = some (.lst zs)) (e : ExB p H H') (h : AllFr K b H xs qs) : AllFr K b H' xs qs := ⟨h.1, fun n y r hy hr => (h.2 n y r hy hr).lst hp e⟩
theorem fx_run (hi : σ[i]? = some (some v)) (hu : Dq K p H v (fsD F)) (ok : FOk F) (hj : σ[j]? = some (some (.ref l))) (hl : H l = some (.lst (intsV ns))) (full : Full F 0 ns) (hq : worthF F ns = q) : EvFX K Ts (tOp (rIxT K) (tCall (spRunOf K) [] E (tCons (tVar i) (tCons (tVar j) tNil))) (tC (.int 0))) σ H 470 q := fun H1 e1 t1 Q k => by
  have fl := full_lt full
  have l8 := ok.most
  exact ⟨_, hi, _, hj, p, v, l, F, ns, rfl, Dq.xt e1 _ _ hu, ok, SqL.of (e1.l hl), fl.1, by omega, fun t x y H2 e2 hS fx fy => ⟨t, _, 0, x, rfl, rfl, hS, rfl, k x H2 (Ex.t e2) (t1.ex e2) (by rw [← hq]; exact fx.re (fx.bd.mono (by omega)))⟩⟩
theorem fx_ow2 (hi : σ[i]? = some (some v)) (hu : Dq K p H v (fsD F)) (ok : FOk F) (hj : σ[j]? = some (some (.ref l))) (hl : H l = some (.lst (intsV ns))) (lp : l ≠ p) (lm : l ≠ sysModules) (full : Full F 0 ns) (hq : worthF F ns = q) : EvFX K Ts (tCall (spOW K Ts) [] E (tCons (tVar i) (tCons (tVar j) tNil))) σ H 470 q := fun H1 e1 t1 Q k =>
  ⟨_, hi, _, hj, p, v, l, F, ns, rfl, Dq.xt e1 _ _ hu, ok, e1.l hl, lp, lm, (full_lt full).2, ((mem_rows F F.length ns).mp (full_iff.mp full)).2, t1, fun x H2 e2 t2 fx => k x H2 e2 t2 (by rw [← hq]; exact fx)⟩
theorem tx_iso (hi : σ[i]? = some (some v)) (hu : Dq K p H v (fsD F)) (ok : FOk F) (hj : σ[j]? = some (some (.ref l))) (hl : H l = some (.lst (intsV ns))) (lp : l ≠ p) (lm : l ≠ sysModules) (full : Full F 0 ns) : EvTX Ts (tNot (tB (tCall (spIsO K Ts) [] E (tCons (tVar i) (tCons (tVar j) tNil))))) σ H false := fun H1 e1 t1 Q k =>
  ⟨_, hi, _, hj, p, v, .ref l, F, _, rfl, Dq.xt e1 _ _ hu, .lst lp lm (e1.l hl) (ints_dq ns), ok, t1, fun H2 e2 t2 => ⟨_, rfl, by
    show Q (!seqB F (.list (intsD ns))) H2
    rw [seqB_full full]
    exact k H2 e2 t2⟩⟩
theorem lone_get {n : Nat} (h : n < 8) : loneF[n]? = some ⟨none, ((n : Int) : Rat), 1 / 2⟩ := by
  unfold loneF
  rw [List.getElem?_map, List.getElem?_range h]
  rfl
end
/-! ### the law itself -/
section
variable {P : Program} {w : World} {K : PySem.W.Frag} {mg : Str → Option Value} {base : Heap}
def spLaw (K : PySem.W.Frag) (T : Addr) : Sp := fun vs H Q _ => ∃ (a : Addr) (ns : List Int), vs = [.ref a] ∧ SqL K H a (ns.map V.int) ∧ ns.length ≤ 63 ∧ GxR.TabG H T ∧ ∀ H', Q (.bl true) H'
set_option maxHeartbeats 0 in
theorem ok_law (T : Txt K mg) (tb : GxR.TabB base mg T.c_is_forest T.P_is_forest) : FnG P w K mg base 10 T.d_law.a T.d_law.fd ["_law_script"] (spLaw K T.P_is_forest) := by
  refine okG T.d_law.F sc_law (fun vs H Q E h => ?_) (fun cdv A outer s H vs Q gd hr h => ?_)
  · obtain ⟨a, ns, rfl, _⟩ := h
    rfl
  · obtain ⟨a, ns, rfl, hS, hl, ht0, k⟩ := h
    have hu := hr.units
    have hu65 := units65 hr
    refine ⟨_, (pss_cons (ps_set (i := 1) sc_law.nd rfl (Or.inl rfl) (pe_call (ok__law_pen T) (hr.mono (by decide)) (by rfl) T.d__law_pen.g T.d__law_pen.F.kp T.d__law_pen.b .nil pass0 (pa_cons (pv 0) pa_nil)))
      (pss_cons (ps_set (i := 2) sc_law.nd rfl (Or.inl rfl) (pe_tup (pa_cons pe_int (pa_cons pe_int pa_nil))))
      (pss_cons (ps_set (i := 3) sc_law.nd rfl (Or.inl rfl) (pe_op op_catT (pe_tup (pa_cons (pe_tup (pa_cons pe_non (pa_cons (pe_tup (pa_cons (pe_un un_neg pe_int) (pa_cons pe_int pa_nil))) (pa_cons (pe_tup (pa_cons pe_int (pa_cons pe_int pa_nil))) pa_nil)))) (pa_cons (pe_tup (pa_cons pe_non (pa_cons (pe_tup (pa_cons pe_int (pa_cons pe_int pa_nil))) (pa_cons (pe_tup (pa_cons pe_int (pa_cons pe_int pa_nil))) pa_nil)))) (pa_cons (pe_tup (pa_cons pe_non (pa_cons (pe_tup (pa_cons pe_int (pa_cons pe_int pa_nil))) (pa_cons (pv 2) pa_nil)))) pa_nil)))) (pe_op op_repT (pe_tup (pa_cons (pe_tup (pa_cons pe_non (pa_cons (pe_tup (pa_cons pe_int (pa_cons pe_int pa_nil))) (pa_cons (pe_tup (pa_cons pe_int (pa_cons pe_int pa_nil))) pa_nil)))) pa_nil)) pe_int)))
      (pss_cons (ps_if (PW.pt (pw_or (pt_cmpR (op_neD hr.units) (pe_call (ok_best_worth T tb) (hr.mono (by decide)) (by rfl) T.d_best_worth.g T.d_best_worth.F.kp T.d_best_worth.b .nil pass0 (pa_cons (pv 3) pa_nil)) (pe_tup (pa_cons pe_int (pa_cons pe_int pa_nil))) (nomark _)) (pw_or1 (pt_cmpR (op_neD hr.units) (pe_call (ok_order_worth T tb) (hr.mono (by decide)) (by rfl) T.d_order_worth.g T.d_order_worth.F.kp T.d_order_worth.b .nil pass0 (pa_cons (pv 3) (pa_cons (pe_call (ok_best_order T tb) (hr.mono (by decide)) (by rfl) T.d_best_order.g T.d_best_order.F.kp T.d_best_order.b .nil pass0 (pa_cons (pv 3) pa_nil)) pa_nil))) (pe_tup (pa_cons pe_int (pa_cons pe_int pa_nil))) (nomark _))))) (pss_one (ps_ret pe_bl)) pss_nil)
      (pss_cons (ps_set (i := 4) sc_law.nd rfl (Or.inl rfl) (pe_call (ok__law_forest T) (hr.mono (by decide)) (by rfl) T.d__law_forest.g T.d__law_forest.F.kp T.d__law_forest.b .nil pass0 (pa_cons (pv 1) (pa_cons pe_int pa_nil))))
      (pss_cons (ps_if (PW.pt (pw_or (pt_cmpR (op_neD hr.units) (pe_call (ok_best_worth T tb) (hr.mono (by decide)) (by rfl) T.d_best_worth.g T.d_best_worth.F.kp T.d_best_worth.b .nil pass0 (pa_cons (pv 4) pa_nil)) (pe_call (ok__law_by_sets T) (hr.mono (by decide)) (by rfl) T.d__law_by_sets.g T.d__law_by_sets.F.kp T.d__law_by_sets.b .nil pass0 (pa_cons (pv 4) pa_nil)) (nomark _)) (pw_or1 (pt_cmpR (op_neD hr.units) (pe_call (ok_order_worth T tb) (hr.mono (by decide)) (by rfl) T.d_order_worth.g T.d_order_worth.F.kp T.d_order_worth.b .nil pass0 (pa_cons (pv 4) (pa_cons (pe_call (ok_best_order T tb) (hr.mono (by decide)) (by rfl) T.d_best_order.g T.d_best_order.F.kp T.d_best_order.b .nil pass0 (pa_cons (pv 4) pa_nil)) pa_nil))) (pe_call (ok_best_worth T tb) (hr.mono (by decide)) (by rfl) T.d_best_worth.g T.d_best_worth.F.kp T.d_best_worth.b .nil pass0 (pa_cons (pv 4) pa_nil)) (nomark _))))) (pss_one (ps_ret pe_bl)) pss_nil)
      (pss_cons (ps_for PassesOwn.never rfl (pi_range1 (by rfl) T.n_range (pa_cons pe_int pa_nil)) (pg_name (i := 5) sc_law.nd rfl (Or.inl rfl)) (pss_cons (ps_set (i := 6) sc_law.nd rfl (Or.inr rfl) (pe_call (ok__law_forest T) (hr.mono (by decide)) (by rfl) T.d__law_forest.g T.d__law_forest.F.kp T.d__law_forest.b .nil pass0 (pa_cons (pv 1) (pa_cons pe_int pa_nil))))
      (pss_cons (ps_par (i := 7) (j := 8) (by rfl) sc_law.nd rfl rfl (by decide) rfl rfl (pa_cons (pe_callB (call_repr gd hu) (by rfl) T.n_repr (by decide +kernel) (pa_cons (pv 6) pa_nil)) (pa_cons (pe_call (ok__law_orders T) (hr.mono (by decide)) (by rfl) T.d__law_orders.g T.d__law_orders.F.kp T.d__law_orders.b .nil pass0 (pa_cons (pv 6) pa_nil)) pa_nil)) (by rfl))
      (pss_cons (ps_set (i := 9) sc_law.nd rfl (Or.inl rfl) (pe_call (ok__law_most T) (hr.mono (by decide)) (by rfl) T.d__law_most.g T.d__law_most.F.kp T.d__law_most.b .nil pass0 (pa_cons (pe_lc (own := [("_law_order", 13)]) (g := gName 13) (te := (tOp (rIxT K) (tCall (spRunOf K) [] E0 (tCons (tVar 6) (tCons (tVar 13) tNil))) (tC (.int 0)))) (tt := tYes) rfl sc_law.nd (pi_list (pv 8)) (blkOk_by (own := [("_law_order", 13)]) (N := n_law) (sc := defScope s_law) (by decide +kernel)) (fun _ _ _ _ _ => pg_name (i := 13) sc_law.nd rfl (Or.inl rfl)) (fun _ _ _ _ _ => pts_nil) (fun _ _ _ _ _ => (pe_ix ix_tup (pe_call (ok__law_run T) (hr.mono (by decide)) (by rfl) T.d__law_run.g T.d__law_run.F.kp T.d__law_run.b .nil pass0 (pa_cons (pv 6) (pa_cons (pv 13) pa_nil))) pe_int (fun _ _ => rfl)))) pa_nil)))
      (pss_cons (ps_for PassesOwn.never rfl (pi_range1 (by rfl) T.n_range (pa_cons pe_int pa_nil)) (pg_name (i := 10) sc_law.nd rfl (Or.inl rfl)) (pss_cons (ps_set (i := 11) sc_law.nd rfl (Or.inl rfl) (pe_call (ok_best_order T tb) (hr.mono (by decide)) (by rfl) T.d_best_order.g T.d_best_order.F.kp T.d_best_order.b .nil pass0 (pa_cons (pv 6) pa_nil)))
      (pss_cons (ps_if (PW.pt (pw_or (pt_not (pt_val (pe_callB call_isi (by rfl) T.n_isinstance (by decide +kernel) (pa_cons (pv 11) (pa_cons (pe_bltn (v := .ty "list") (by rfl) T.n_list (by decide +kernel) rfl) pa_nil))))) (pw_or (pt_cmpR (op_notInD hu65) (pv 11) (pv 8) (by rfl)) (pw_or1 (pt_cmpR (op_neD hr.units) (pe_call (ok_best_worth T tb) (hr.mono (by decide)) (by rfl) T.d_best_worth.g T.d_best_worth.F.kp T.d_best_worth.b .nil pass0 (pa_cons (pv 6) pa_nil)) (pv 9) (nomark _)))))) (pss_one (ps_ret pe_bl)) pss_nil)
      (pss_cons (ps_if (PW.pt (pw_or (pt_cmpR (op_neD hr.units) (pe_ix ix_tup (pe_call (ok__law_run T) (hr.mono (by decide)) (by rfl) T.d__law_run.g T.d__law_run.F.kp T.d__law_run.b .nil pass0 (pa_cons (pv 6) (pa_cons (pv 11) pa_nil))) pe_int (fun _ _ => rfl)) (pv 9) (nomark _)) (pw_or (pt_cmpR (op_neD hr.units) (pe_call (ok_order_worth T tb) (hr.mono (by decide)) (by rfl) T.d_order_worth.g T.d_order_worth.F.kp T.d_order_worth.b .nil pass0 (pa_cons (pv 6) (pa_cons (pv 11) pa_nil))) (pv 9) (nomark _)) (pw_or1 (pt_not (pt_val (pe_call (ok_is_order T tb) (hr.mono (by decide)) (by rfl) T.d_is_order.g T.d_is_order.F.kp T.d_is_order.b .nil pass0 (pa_cons (pv 6) (pa_cons (pv 11) pa_nil))))))))) (pss_one (ps_ret pe_bl)) pss_nil)
      (pss_one (ps_expr (pe_bm PySem.F.plainAttrs_list PySem.F.slot_list_append PySem.F.type_list_append mt_append (pv 11) (pa_cons pe_non pa_nil))))))))
      (pss_one (ps_if (pt_cmpR op_ne (pe_callB (call_repr gd hu) (by rfl) T.n_repr (by decide +kernel) (pa_cons (pv 6) pa_nil)) (pv 7) (nomark _)) (pss_one (ps_ret pe_bl)) pss_nil)))))))
      (pss_cons (ps_set (i := 12) sc_law.nd rfl (Or.inl rfl) (pe_callTy call_tuple_of (by rfl) T.n_tuple (by decide +kernel) (pa_cons (pe_lc (own := [("_law_k", 14)]) (g := gName 14) (tt := tYes) rfl sc_law.nd (pi_range1 (by rfl) T.n_range (pa_cons pe_int pa_nil)) (blkOk_by (own := [("_law_k", 14)]) (N := n_law) (sc := defScope s_law) (by decide +kernel)) (fun _ _ _ _ _ => pg_name (i := 14) sc_law.nd rfl (Or.inl rfl)) (fun _ _ _ _ _ => pts_nil) (fun _ _ _ _ _ => (pe_tup (pa_cons pe_non (pa_cons (pe_tup (pa_cons (pv 14) (pa_cons pe_int pa_nil))) (pa_cons (pe_tup (pa_cons pe_int (pa_cons pe_int pa_nil))) pa_nil)))))) pa_nil)))
      (pss_one (ps_ret (pe_cmpR (op_eqD hr.units) (pe_call (ok_best_order T tb) (hr.mono (by decide)) (by rfl) T.d_best_order.g T.d_best_order.F.kp T.d_best_order.b .nil pass0 (pa_cons (pv 12) pa_nil)) (pe_lst (pa_cons pe_int (pa_cons pe_int (pa_cons pe_int (pa_cons pe_int (pa_cons pe_int (pa_cons pe_int (pa_cons pe_int (pa_cons pe_int pa_nil))))))))) (nomark _)))))))))))), ?_⟩
    have ht : TBs [T.P_is_forest] H := fun t h => by
      rw [List.mem_singleton] at h
      subst h
      exact ht0
    refine n_seq ?_
    refine ⟨.ref a, rfl, a, ns, rfl, hS, hl, fun p c H1 ex1 hp nf => ?_⟩
    dsimp only
    have t1 := ht.ex ex1
    obtain ⟨xp1, hxp1⟩ := hp.hasP
    -- the written forest of six
    refine n_seq ?_
    refine s_asgP (ed_P (K := K) (p := p) ed_I ed_I) fun hv H2 e2 qh => ?_
    dsimp only
    have t2 := t1.ex e2
    have hp2 := hp.ex e2
    have hxp2 := e2 _ _ hxp1
    refine n_seq ?_
    have six : EvD K p (tOp (rCatT K) (tTup (tCons (tTup (tCons (tC V.non) (tCons (tTup (tCons (tUn (rU fun i => V.int (-i)) (tC (V.int 2))) (tCons (tC (V.int 1)) tNil))) (tCons (tTup (tCons (tC (V.int 1)) (tCons (tC (V.int 1)) tNil))) tNil)))) (tCons (tTup (tCons (tC V.non) (tCons (tTup (tCons (tC (V.int 2)) (tCons (tC (V.int 1)) tNil))) (tCons (tTup (tCons (tC (V.int 1)) (tCons (tC (V.int 1)) tNil))) tNil)))) (tCons (tTup (tCons (tC V.non) (tCons (tTup (tCons (tC (V.int 0)) (tCons (tC (V.int 1)) tNil))) (tCons (tVar 2) tNil)))) tNil)))) (tOp (rRepT K) (tTup (tCons (tTup (tCons (tC V.non) (tCons (tTup (tCons (tC (V.int 0)) (tCons (tC (V.int 1)) tNil))) (tCons (tTup (tCons (tC (V.int 1)) (tCons (tC (V.int 1)) tNil))) tNil)))) tNil)) (tC (V.int ((3 : Nat) : Int)))))
        [some (.ref a), some (.ref p), some hv, none, none, none, none, none, none, none, none, none, none, none, none] H2 (fsD sixF) := by
      rw [six_eq]
      exact ed_catT (ed_tup (ds := sixD) (eds_cons (ed_tup (eds_cons ed_none (eds_cons (ed_P ed_N ed_I) (eds_cons (ed_P ed_I ed_I) eds_nil))) (by show 3 ≤ 1000; decide)) (eds_cons (ed_tup (eds_cons ed_none (eds_cons (ed_P ed_I ed_I) (eds_cons (ed_P ed_I ed_I) eds_nil))) (by show 3 ≤ 1000; decide)) (eds_cons (ed_tup (eds_cons ed_none (eds_cons (ed_P ed_I ed_I) (eds_cons (ed_var rfl qh) eds_nil))) (by show 3 ≤ 1000; decide)) eds_nil))) (by show 3 ≤ 1000; decide)) (ed_repN (ds := restD) (ed_tup (eds_cons (ed_tup (eds_cons ed_none (eds_cons (ed_P ed_I ed_I) (eds_cons (ed_P ed_I ed_I) eds_nil))) (by show 3 ≤ 1000; decide)) eds_nil) (by show 1 ≤ 1000; decide)) (fun z => nomatch z) (by decide) (by decide) (by show 1 ≤ 1000; decide)) (fun z => nomatch z) (fun z => nomatch z) (by decide)
    refine s_asgP six fun sv H3 e3 qs => ?_
    dsimp only
    have t3 := t2.ex e3
    have hp3 := hp2.ex e3
    have hxp3 := e3 _ _ hxp2
    clear six qh hxp1 hxp2 hp hp2 t1 t2
    have lit1 : ∀ {σ : L2.St} {G : Hp}, EvFX K [T.P_is_forest] (tTup (tCons (tC (.int 1)) (tCons (tC (.int 1)) tNil))) σ G 2 1 := fx_ep fun G e => ep_lit rfl rfl ⟨by decide, by decide⟩
    refine n_seq ?_
    refine s_skipX (tx_or (tx_neF (fx_bw (i := 3) rfl qs six_ok six_max) lit1) (tx_neF (fx_ow hxp3 (i := 3) rfl qs six_ok six_max) lit1)) t3 fun H4 X4 t4 => ?_
    have hp4 := hp3.xt X4
    have hxp4 := X4.l hxp3
    clear X4 qs hp3 hxp3 t3
    dsimp only
    -- a great one
    refine n_seq ?_
    refine ⟨_, rfl, p, c, 8, _, rfl, hp4, by decide, by decide, by decide, fun gv gF H5 eb5 hp5 qg okg _ => ?_⟩
    have t5 := t4.upd (ys := []) hxp4 eb5
    obtain ⟨xp5, hxp5⟩ := hp5.hasP
    obtain ⟨gq, gm⟩ := max_ex okg
    clear eb5 hxp4 hp4 t4
    dsimp only
    refine n_seq ?_
    refine s_skipX (tx_or (tx_neF (fx_bw (i := 4) rfl qg okg gm) (fx_by (i := 4) rfl qg okg gm)) (tx_neF (fx_ow hxp5 (i := 4) rfl qg okg gm) (fx_bw (i := 4) rfl qg okg gm))) t5 fun H6 X6 t6 => ?_
    have hp6 := hp5.xt X6
    clear X6 qg okg gm hp5 hxp5 t5
    dsimp only
    refine n_seq ?_
    refine ⟨4, rfl, by decide, by decide, ?_⟩
    refine for_range (lo := 0) (n := 4) (fun i σ G => (∃ y5 y6 y7 y8 y9 y10 y11 y12 y13 y14, σ = [some (.ref a), some (.ref p), some hv, some sv, some gv, y5, y6, y7, y8, y9, y10, y11, y12, y13, y14]) ∧ Pen G p c (40 * (i + 1)) ∧ TBs [T.P_is_forest] G) ⟨⟨none, none, none, none, none, none, none, none, none, none, rfl⟩, hp6, t6⟩ ?_ ?_
    · rintro i σ G hi ⟨⟨y5, y6, y7, y8, y9, y10, y11, y12, y13, y14, rfl⟩, hpG, tG⟩
      refine n_name ?_
      dsimp only
      refine n_seq ?_
      obtain ⟨xG, hxG⟩ := hpG.hasP
      refine ⟨_, rfl, p, c, 5, _, rfl, hpG, by decide, by decide, by omega, fun v F G1 eb1 hp1 qv ok l5 => ?_⟩
      have tA := tG.upd (ys := []) hxG eb1
      obtain ⟨x1, hx1⟩ := hp1.hasP
      clear eb1 hxG hpG tG
      dsimp only
      have nF := fs_nc ok
      refine n_seq ?_
      refine s_par ?_
      refine (ev_repr (K := K) (p := p) (ed_var rfl qv) nF (by decide) (by decide)) G1 (Ex.refl _) _ fun G2 e2' => ?_
      have qv2 := Dq.ex e2' _ _ qv
      refine ⟨_, rfl, p, v, F, rfl, qv2, ok, l5, fun L as G3 e3' nL hL rs => ⟨_, _, rfl, ?_⟩⟩
      have E3 := e2'.trans e3'
      have hp3 := hp1.ex E3
      have hx3 := E3 _ _ hx1
      have t3' := tA.ex E3
      have qv3 := Dq.ex e3' _ _ qv2
      have nLp : L ≠ p := fun z => by
        have := e2' _ _ hx1
        rw [z, this] at nL
        cases nL
      have ords3 : LstD0 K p (ordsD F) (.ref L) G3 := ⟨L, _, rfl, nLp, hL, rs.dq (e2' _ _ hx1)⟩
      have asl : as.length = (rowsF F F.length).length := rs.1
      have l8 := ok.most
      dsimp only
      refine n_seq ?_
      refine ⟨_, rfl, L, rfl, ⟨_, SqL.of hL⟩, fun D nD => ?_⟩
      have rl : (rowsF F F.length).length ≤ 3125 := by
        refine Nat.le_trans (rows_len F F.length) (Nat.le_trans (Nat.pow_le_pow_left l5 _) (Nat.le_trans (Nat.pow_le_pow_right (by decide) l5) (by decide)))
      refine lc_list (K := K) (a := L) (xs := as.map V.ref) (fun i G => Ex G3 G ∧ ∃ zs, G D = some (.lst zs) ∧ zs.length = i ∧ AllFr K 470 G zs (((rowsF F F.length).take i).map (worthF F))) ⟨Ex.new nD, [], upd_same, rfl, ⟨rfl, fun i x q h => by simp at h⟩⟩ (fun i G _ h => SqL.of (h.1 _ _ hL)) ?_ ?_
      · rintro j x G hx ⟨ex, zs, hz, hzl, af⟩
        rw [List.getElem?_map] at hx
        cases haj : as[j]? with
        | none => rw [haj] at hx; cases hx
        | some oa =>
        rw [haj] at hx
        cases hx
        have jl : j < as.length := (List.getElem?_eq_some_iff.mp haj).1
        obtain ⟨r, hr'⟩ : ∃ r, (rowsF F F.length)[j]? = some r := ⟨_, List.getElem?_eq_getElem (by omega)⟩
        obtain ⟨ho, _⟩ := rs.2 j oa r haj hr'
        have hm := (mem_rows F F.length r).mp (List.mem_of_getElem? hr')
        refine ⟨rfl, ?_⟩
        refine yes_of ?_
        rw [if_pos rfl]
        refine ⟨_, rfl, _, rfl, p, v, oa, F, r, rfl, Dq.ex ex _ _ qv3, ok, SqL.of (ex _ _ ho), seqL_lt F r [] hm.2, by omega, fun t x y G4 e4 hS4 fx fy => ⟨t, _, 0, x, rfl, rfl, hS4, rfl, ?_⟩⟩
        have hz4 := e4 _ _ hz
        have up : ExB D G4 (upd G4 D (.lst (zs ++ [x]))) := ExB.upd (ExB.refl D G4)
        refine ⟨zs, hz4, small4000 (by omega), Ex.mut (ex.trans e4) nD, zs ++ [x], upd_same, by rw [List.length_append, hzl]; rfl, ?_⟩
        rw [take_snoc hr', List.map_append]
        exact ((af.ex e4).snoc (fx.re (fx.bd.mono (by omega)))).lst hz4 up
      rintro G ⟨ex, zs, hz, hzl, af⟩
      rw [List.length_map, asl, List.take_length] at af
      obtain ⟨r0, hr0⟩ := rows_ne ok
      refine ⟨D, zs, _, 470, rfl, SqL.of hz, af, (fun z => by
        have := List.map_eq_nil_iff.mp z
        rw [this] at hr0
        simp at hr0), by decide, fun z q G4 e4 fz hq hm => ?_⟩
      have mx : IsMax F q := ⟨by
        obtain ⟨l, hl, e⟩ := List.mem_map.mp hq
        exact ⟨l, full_iff.mpr hl, e⟩, fun l h => hm _ (List.mem_map.mpr ⟨l, full_iff.mp h, rfl⟩)⟩
      have E4 := ex.trans e4
      have hp4' := hp3.ex E4
      have hx4 := E4 _ _ hx3
      have t4' := t3'.ex E4
      have qv4 := Dq.ex E4 _ _ qv3
      have ords4 := ords3.xt (Ex.t E4)
      clear ex hz hzl af hq hm E4 e4 e2' e3' E3 hp1 hx1 hp3 hx3 t3' tA qv qv2 qv3 ords3 hL nL rs asl rl hr0
      dsimp only
      refine n_seq ?_
      refine ⟨2, rfl, by decide, by decide, ?_⟩
      refine for_range (lo := 0) (n := 2) (fun j σ G => ∃ y10 y11, σ = [some (.ref a), some (.ref p), some hv, some sv, some gv, some (.int (0 + (i : Nat))), some v, some (.str (fsD F).shown), some (.ref L), some z, y10, y11, y12, y13, y14] ∧ ExT G4 G ∧ TBs [T.P_is_forest] G) ⟨_, _, rfl, ExT.refl _, t4'⟩ ?_ ?_
      · rintro j σ GA hj ⟨y10', y11', rfl, eA, tA⟩
        refine n_name ?_
        dsimp only
        refine n_seq ?_
        have qvA := Dq.xt eA _ _ qv4
        have hxA := eA.l hx4
        refine ⟨_, rfl, p, v, F, rfl, qvA, ok, tA, fun l ord GB eB tB new lm hl full most => ?_⟩
        have lp : l ≠ p := new p _ hxA (fun _ z => nomatch z)
        have hqo : worthF F ord = q := (max_of full most).eq mx
        have ql : Dq K p GB (.ref l) (.list (intsD ord)) := .lst lp lm hl (ints_dq ord)
        have hl0 : LstD0 K p (intsD ord) (.ref l) GB := ⟨l, _, rfl, lp, hl, ints_dq ord⟩
        have XB := eA.trans eB
        have qvB := Dq.xt XB _ _ qv4
        have fzB := fz.xt XB
        have ordsB := ords4.xt XB
        dsimp only
        refine n_seq ?_
        refine s_skipX (tx_or (tx_et fun G e => et_is (et_not (et_B (ev_isi (b := true) rfl (Dq.xt e _ _ ql) (kit_lst _)))) rfl) (tx_or (fun H1 e1 t1 Q k => ⟨_, rfl, _, rfl, .list (intsD ord), ordsD F, (hl0.xt e1).dp (hd_ints ord), (ordsB.xt e1).dp (hd_rows _), shp1 ord, shp2 F, _, rfl, by rw [any_ord full]; exact k H1 (ExT.refl _) t1⟩) (tx_neF (fx_bw (i := 6) rfl qvB ok mx) (fx_var (i := 9) rfl fzB)))) tB fun GC XC tC => ?_
        have qvC := Dq.xt XC _ _ qvB
        have fzC := fzB.xt XC
        have hlC := XC.l hl
        clear ql hl0 ordsB qvB fzB
        dsimp only
        refine n_seq ?_
        refine s_skipX (tx_or (tx_neF (fx_run (i := 6) (j := 11) rfl qvC ok rfl hlC full hqo) (fx_var (i := 9) rfl fzC)) (tx_or (tx_neF (fx_ow2 (i := 6) (j := 11) rfl qvC ok rfl hlC lp lm full hqo) (fx_var (i := 9) rfl fzC)) (tx_iso (i := 6) (j := 11) rfl qvC ok rfl hlC lp lm full))) tC fun GD XD tD => ?_
        have hlD := XD.l hlC
        dsimp only
        refine s_app hlD (ev_var rfl) ev_c (by rw [intsV_len, (full_lt full).2]; omega) fun GE eE => ?_
        have hlE := eE _ _ hlD
        refine ⟨_, _, rfl, fun b o n h => ?_, TBs.upd (ys := []) (tD.ex eE) hlE fun b o hb h => ?_⟩
        · have hA := eA b o n h
          rw [upd_ne (new b o hA n).symm]
          exact eE _ _ (((eB.trans XC).trans XD) b o n hA)
        · rw [upd_ne hb]
          exact h
      · rintro σ GA ⟨y10', y11', rfl, eA, tA⟩
        have qvA := Dq.xt eA _ _ qv4
        dsimp only
        refine s_skip (et_is (et_test (ev_op (ev_repr (K := K) (p := p) (ed_var rfl qvA) nF (by decide) (by decide)) (ev_var rfl) (rv_ne rfl))) (by simp)) fun GZ eZ => ?_
        exact ⟨⟨_, _, _, _, _, _, _, _, _, _, rfl⟩, ((hp4'.xt eA).ex eZ).mono (by omega), tA.ex eZ⟩
    · rintro σ G ⟨⟨y5, y6, y7, y8, y9, y10, y11, y12, y13, y14, rfl⟩, hpG, tG⟩
      dsimp only
      obtain ⟨xG, hxG⟩ := hpG.hasP
      refine n_seq ?_
      refine ⟨8, rfl, by decide, by decide, fun D nD => ?_⟩
      refine lc_range (lo := 0) (n := 8) (fun j G' => Ex G G' ∧ ∃ zs, G' D = some (.lst zs) ∧ zs.length = j ∧ DqAll K p G' zs ((loneF.take j).map tkD)) ⟨Ex.new nD, [], upd_same, rfl, .nil⟩ ?_ ?_
      · rintro j G' hj ⟨ex, zs, hz, hzl, qs⟩
        refine ⟨rfl, ?_⟩
        refine yes_of ?_
        rw [if_pos rfl]
        refine (ed_tup (K := K) (p := p) (eds_cons ed_none (eds_cons (ed_P (ed_var (i := 14) rfl (.int (0 + ((j : Nat) : Int)))) ed_I) (eds_cons (ed_P ed_I ed_I) eds_nil))) (by show 3 ≤ 1000; decide)) G' (Ex.refl _) _ fun y G2 e2 q2 => ?_
        rw [Int.zero_add, ← lone_at hj] at q2
        have hz2 := e2 _ _ hz
        have up : ExB D G2 (upd G2 D (.lst (zs ++ [y]))) := ExB.upd (ExB.refl D G2)
        refine ⟨zs, hz2, small1000 (by omega), Ex.mut (ex.trans e2) nD, zs ++ [y], upd_same, by rw [List.length_append, hzl]; rfl, ?_⟩
        rw [take_snoc (lone_get hj), List.map_append]
        have fl : flatDA ((loneF.take j).map tkD) = true := flatDA_of fun d hd => by
          obtain ⟨t, _, rfl⟩ := List.mem_map.mp hd
          exact flat_tk t
        exact (DqAll.fl (tupd_l hz2) up _ _ fl (DqAll.ex e2 _ _ qs)).append (.cons (Dq.fl (tupd_l hz2) up _ _ (flat_tk _) q2) .nil)
      · rintro G' ⟨ex, zs, hz, hzl, qs⟩
        rw [show loneF.take 8 = loneF from List.take_of_length_le (by decide)] at qs
        refine ⟨D, zs, rfl, .inl ⟨SqL.of hz, fun t ft => ?_⟩⟩
        have x1 := Ex.new (o := .tup zs) ft
        have qd : Dq K p (upd G' t (.tup zs)) (.ref t) (fsD loneF) := .tup (SqT.of upd_same) (DqAll.ex x1 _ _ qs)
        have tT := tG.ex (ex.trans x1)
        have hxT := (ex.trans x1) _ _ hxG
        dsimp only
        refine ⟨_, rfl, p, .ref t, loneF, rfl, qd, lone_ok, tT, fun l ord GB eB tB new lm hl full most => ?_⟩
        have one := lone_one ord full most
        subst one
        refine ⟨by show 8 ≤ sizeLine; decide, fun w fw => ⟨.list (intsD [7, 6, 5, 4, 3, 2, 1, 0]), .list (intsD [7, 6, 5, 4, 3, 2, 1, 0]), .lst (SqL.of ((Ex.new fw) _ _ hl)) (DqAll.dp (p := p) _ _ (hd_ints _) (ints_dq _)), .lst (SqL.of upd_same) (DqAll.dp (p := p) _ _ (hd_ints _) (ints_dq [7, 6, 5, 4, 3, 2, 1, 0])), shp1 _, shp1 _, ?_⟩⟩
        have e1 : PyData.eqv (.list (intsD [7, 6, 5, 4, 3, 2, 1, 0])) (.list (intsD [7, 6, 5, 4, 3, 2, 1, 0])) = true := by
          simp only [PyData.eqv]
          exact eqv_ints _
        rw [e1]
        exact k _
end
def CodeK (oc : Value) (vs : Array Value) (c P : Addr) : Prop := ∃ (file : Str) (tf : Tok) (flags : Int) (tg : Tok) (inF : Bool) (text : Int) (tt : Tok), oc = .type "code" ∧ vs.getD 11 .none = .ref P ∧ vs.getD 18 .none = .str file tf ∧
  vs.getD 7 .none = .int flags tg ∧ vs.getD 9 .none = .bool inF ∧ vs.getD 10 .none = .int text tt ∧ c ≠ P
theorem all_mk {l : PySem.W.OpenLaw} {w : World} {K : PySem.W.Frag} {h : Heap} {mg : Str → Option Value} {fa : Addr} (X : K.In h) (G : h.Ns mainGlobals mg) (hfa : mg "law" = some (.ref fa)) (hE : TabE K "is_forest" mg h)
    {od1 an1 : Option Addr} {sl1 : Array (Option Value)} {oc1 kV1 dc1 pm1 cd1 ct1 : Value} {f1 : Addr}
    {od2 an2 : Option Addr} {sl2 : Array (Option Value)} {oc2 kV2 dc2 pm2 cd2 ct2 : Value} {f2 : Addr}
    {od3 an3 : Option Addr} {sl3 : Array (Option Value)} {oc3 kV3 dc3 pm3 cd3 ct3 : Value} {f3 : Addr}
    {od4 an4 : Option Addr} {sl4 : Array (Option Value)} {oc4 kV4 dc4 pm4 cd4 ct4 : Value} {f4 : Addr}
    {od5 an5 : Option Addr} {sl5 : Array (Option Value)} {oc5 kV5 dc5 pm5 cd5 ct5 : Value} {f5 : Addr}
    {od6 an6 : Option Addr} {sl6 : Array (Option Value)} {oc6 kV6 dc6 pm6 cd6 ct6 : Value} {f6 : Addr}
    {od7 an7 : Option Addr} {sl7 : Array (Option Value)} {oc7 kV7 dc7 pm7 cd7 ct7 : Value} {f7 : Addr}
    {od8 an8 : Option Addr} {sl8 : Array (Option Value)} {oc8 kV8 dc8 pm8 cd8 ct8 : Value} {f8 : Addr}
    {od9 an9 : Option Addr} {sl9 : Array (Option Value)} {oc9 kV9 dc9 pm9 cd9 ct9 : Value} {f9 : Addr}
    {od10 an10 : Option Addr} {sl10 : Array (Option Value)} {oc10 kV10 dc10 pm10 cd10 ct10 : Value} {f10 : Addr}
    {od11 an11 : Option Addr} {sl11 : Array (Option Value)} {oc11 kV11 dc11 pm11 cd11 ct11 : Value} {f11 : Addr}
    {od12 an12 : Option Addr} {sl12 : Array (Option Value)} {oc12 kV12 dc12 pm12 cd12 ct12 : Value} {f12 : Addr}
    {od13 an13 : Option Addr} {sl13 : Array (Option Value)} {oc13 kV13 dc13 pm13 cd13 ct13 : Value} {f13 : Addr}
    {od14 an14 : Option Addr} {sl14 : Array (Option Value)} {oc14 kV14 dc14 pm14 cd14 ct14 : Value} {f14 : Addr}
    {od15 an15 : Option Addr} {sl15 : Array (Option Value)} {oc15 kV15 dc15 pm15 cd15 ct15 : Value} {f15 : Addr}
    {od16 an16 : Option Addr} {sl16 : Array (Option Value)} {oc16 kV16 dc16 pm16 cd16 ct16 : Value} {f16 : Addr}
    {od17 an17 : Option Addr} {sl17 : Array (Option Value)} {oc17 kV17 dc17 pm17 cd17 ct17 : Value} {f17 : Addr}
    {od18 an18 : Option Addr} {sl18 : Array (Option Value)} {oc18 kV18 dc18 pm18 cd18 ct18 : Value} {f18 : Addr}
    {od19 an19 : Option Addr} {sl19 : Array (Option Value)} {oc19 kV19 dc19 pm19 cd19 ct19 : Value} {f19 : Addr}
    {od20 an20 : Option Addr} {sl20 : Array (Option Value)} {oc20 kV20 dc20 pm20 cd20 ct20 : Value} {f20 : Addr}
    {od21 an21 : Option Addr} {sl21 : Array (Option Value)} {oc21 kV21 dc21 pm21 cd21 ct21 : Value} {f21 : Addr}
    {od22 an22 : Option Addr} {sl22 : Array (Option Value)} {oc22 kV22 dc22 pm22 cd22 ct22 : Value} {f22 : Addr}
    {od23 an23 : Option Addr} {sl23 : Array (Option Value)} {oc23 kV23 dc23 pm23 cd23 ct23 : Value} {f23 : Addr}
    {od24 an24 : Option Addr} {sl24 : Array (Option Value)} {oc24 kV24 dc24 pm24 cd24 ct24 : Value} {f24 : Addr}
    {od25 an25 : Option Addr} {sl25 : Array (Option Value)} {oc25 kV25 dc25 pm25 cd25 ct25 : Value} {f25 : Addr}
    {od26 an26 : Option Addr} {sl26 : Array (Option Value)} {oc26 kV26 dc26 pm26 cd26 ct26 : Value} {f26 : Addr}
    {od27 an27 : Option Addr} {sl27 : Array (Option Value)} {oc27 kV27 dc27 pm27 cd27 ct27 : Value} {f27 : Addr}
    {od28 an28 : Option Addr} {sl28 : Array (Option Value)} {oc28 kV28 dc28 pm28 cd28 ct28 : Value} {f28 : Addr}
    {od29 an29 : Option Addr} {sl29 : Array (Option Value)} {oc29 kV29 dc29 pm29 cd29 ct29 : Value} {f29 : Addr}
    {od30 an30 : Option Addr} {sl30 : Array (Option Value)} {oc30 kV30 dc30 pm30 cd30 ct30 : Value} {f30 : Addr}
    {od31 an31 : Option Addr} {sl31 : Array (Option Value)} {oc31 kV31 dc31 pm31 cd31 ct31 : Value} {f31 : Addr}
    {od32 an32 : Option Addr} {sl32 : Array (Option Value)} {oc32 kV32 dc32 pm32 cd32 ct32 : Value} {f32 : Addr}
    {od33 an33 : Option Addr} {sl33 : Array (Option Value)} {oc33 kV33 dc33 pm33 cd33 ct33 : Value} {f33 : Addr}
    {od34 an34 : Option Addr} {sl34 : Array (Option Value)} {oc34 kV34 dc34 pm34 cd34 ct34 : Value} {f34 : Addr}
    {od35 an35 : Option Addr} {sl35 : Array (Option Value)} {oc35 kV35 dc35 pm35 cd35 ct35 : Value} {f35 : Addr}
    {od36 an36 : Option Addr} {sl36 : Array (Option Value)} {oc36 kV36 dc36 pm36 cd36 ct36 : Value} {f36 : Addr}
    {od37 an37 : Option Addr} {sl37 : Array (Option Value)} {oc37 kV37 dc37 pm37 cd37 ct37 : Value} {f37 : Addr}
    {aZ : Addr} {ddZ : Option Addr} {tZ uZ : Tok} {nZ : Nat} {slZ : Array (Option Value)}
    {tMOST_TASKS : Tok}
    {aO : Addr} {ddO : Option Addr} {tO uO : Tok} {nO : Nat} {slO : Array (Option Value)}
    {cA PA : Addr} {ocA : Value} {ddA : Option Addr} {vsA : Array Value} {slA : Array (Option Value)}
    (a1 : PySem.W.nsIn K mainGlobals "is_whole" = some (some (.ref f1))) (l1 : K.lookup f1 = some ⟨oc1, od1, .func (PySem.W.fnOf "is_whole" "is_whole" (defArgs s_is_whole) (defBody s_is_whole) (defScope s_is_whole) .none kV1 dc1 pm1 an1 cd1 ct1), sl1⟩) (c1 : PySem.W.codeIn K cd1 "is_whole" = true) (k1 : PySem.W.keepIn K (.ref f1) = true)
    (a2 : PySem.W.nsIn K mainGlobals "is_number_below" = some (some (.ref f2))) (l2 : K.lookup f2 = some ⟨oc2, od2, .func (PySem.W.fnOf "is_number_below" "is_number_below" (defArgs s_is_number_below) (defBody s_is_number_below) (defScope s_is_number_below) .none kV2 dc2 pm2 an2 cd2 ct2), sl2⟩) (c2 : PySem.W.codeIn K cd2 "is_number_below" = true) (k2 : PySem.W.keepIn K (.ref f2) = true)
    (a3 : PySem.W.nsIn K mainGlobals "is_fraction" = some (some (.ref f3))) (l3 : K.lookup f3 = some ⟨oc3, od3, .func (PySem.W.fnOf "is_fraction" "is_fraction" (defArgs s_is_fraction) (defBody s_is_fraction) (defScope s_is_fraction) .none kV3 dc3 pm3 an3 cd3 ct3), sl3⟩) (c3 : PySem.W.codeIn K cd3 "is_fraction" = true) (k3 : PySem.W.keepIn K (.ref f3) = true)
    (a4 : PySem.W.nsIn K mainGlobals "is_from_zero" = some (some (.ref f4))) (l4 : K.lookup f4 = some ⟨oc4, od4, .func (PySem.W.fnOf "is_from_zero" "is_from_zero" (defArgs s_is_from_zero) (defBody s_is_from_zero) (defScope s_is_from_zero) .none kV4 dc4 pm4 an4 cd4 ct4), sl4⟩) (c4 : PySem.W.codeIn K cd4 "is_from_zero" = true) (k4 : PySem.W.keepIn K (.ref f4) = true)
    (a5 : PySem.W.nsIn K mainGlobals "lowest" = some (some (.ref f5))) (l5 : K.lookup f5 = some ⟨oc5, od5, .func (PySem.W.fnOf "lowest" "lowest" (defArgs s_lowest) (defBody s_lowest) (defScope s_lowest) .none kV5 dc5 pm5 an5 cd5 ct5), sl5⟩) (c5 : PySem.W.codeIn K cd5 "lowest" = true) (k5 : PySem.W.keepIn K (.ref f5) = true)
    (a6 : PySem.W.nsIn K mainGlobals "add" = some (some (.ref f6))) (l6 : K.lookup f6 = some ⟨oc6, od6, .func (PySem.W.fnOf "add" "add" (defArgs s_add) (defBody s_add) (defScope s_add) .none kV6 dc6 pm6 an6 cd6 ct6), sl6⟩) (c6 : PySem.W.codeIn K cd6 "add" = true) (k6 : PySem.W.keepIn K (.ref f6) = true)
    (a7 : PySem.W.nsIn K mainGlobals "subtract" = some (some (.ref f7))) (l7 : K.lookup f7 = some ⟨oc7, od7, .func (PySem.W.fnOf "subtract" "subtract" (defArgs s_subtract) (defBody s_subtract) (defScope s_subtract) .none kV7 dc7 pm7 an7 cd7 ct7), sl7⟩) (c7 : PySem.W.codeIn K cd7 "subtract" = true) (k7 : PySem.W.keepIn K (.ref f7) = true)
    (a8 : PySem.W.nsIn K mainGlobals "multiply" = some (some (.ref f8))) (l8 : K.lookup f8 = some ⟨oc8, od8, .func (PySem.W.fnOf "multiply" "multiply" (defArgs s_multiply) (defBody s_multiply) (defScope s_multiply) .none kV8 dc8 pm8 an8 cd8 ct8), sl8⟩) (c8 : PySem.W.codeIn K cd8 "multiply" = true) (k8 : PySem.W.keepIn K (.ref f8) = true)
    (a9 : PySem.W.nsIn K mainGlobals "is_task" = some (some (.ref f9))) (l9 : K.lookup f9 = some ⟨oc9, od9, .func (PySem.W.fnOf "is_task" "is_task" (defArgs s_is_task) (defBody s_is_task) (defScope s_is_task) .none kV9 dc9 pm9 an9 cd9 ct9), sl9⟩) (c9 : PySem.W.codeIn K cd9 "is_task" = true) (k9 : PySem.W.keepIn K (.ref f9) = true)
    (a10 : PySem.W.nsIn K mainGlobals "is_forest" = some (some (.ref f10))) (l10 : K.lookup f10 = some ⟨oc10, od10, .func (PySem.W.fnOf "is_forest" "is_forest" (defArgs s_is_forest) (defBody s_is_forest) (defScope s_is_forest) .none kV10 dc10 pm10 an10 cd10 ct10), sl10⟩) (c10 : PySem.W.codeIn K cd10 "is_forest" = true) (k10 : PySem.W.keepIn K (.ref f10) = true)
    (a11 : PySem.W.nsIn K mainGlobals "require_forest" = some (some (.ref f11))) (l11 : K.lookup f11 = some ⟨oc11, od11, .func (PySem.W.fnOf "require_forest" "require_forest" (defArgs s_require_forest) (defBody s_require_forest) (defScope s_require_forest) .none kV11 dc11 pm11 an11 cd11 ct11), sl11⟩) (c11 : PySem.W.codeIn K cd11 "require_forest" = true) (k11 : PySem.W.keepIn K (.ref f11) = true)
    (a12 : PySem.W.nsIn K mainGlobals "is_sequence" = some (some (.ref f12))) (l12 : K.lookup f12 = some ⟨oc12, od12, .func (PySem.W.fnOf "is_sequence" "is_sequence" (defArgs s_is_sequence) (defBody s_is_sequence) (defScope s_is_sequence) .none kV12 dc12 pm12 an12 cd12 ct12), sl12⟩) (c12 : PySem.W.codeIn K cd12 "is_sequence" = true) (k12 : PySem.W.keepIn K (.ref f12) = true)
    (a13 : PySem.W.nsIn K mainGlobals "parents_of" = some (some (.ref f13))) (l13 : K.lookup f13 = some ⟨oc13, od13, .func (PySem.W.fnOf "parents_of" "parents_of" (defArgs s_parents_of) (defBody s_parents_of) (defScope s_parents_of) .none kV13 dc13 pm13 an13 cd13 ct13), sl13⟩) (c13 : PySem.W.codeIn K cd13 "parents_of" = true) (k13 : PySem.W.keepIn K (.ref f13) = true)
    (a14 : PySem.W.nsIn K mainGlobals "run_of" = some (some (.ref f14))) (l14 : K.lookup f14 = some ⟨oc14, od14, .func (PySem.W.fnOf "run_of" "run_of" (defArgs s_run_of) (defBody s_run_of) (defScope s_run_of) .none kV14 dc14 pm14 an14 cd14 ct14), sl14⟩) (c14 : PySem.W.codeIn K cd14 "run_of" = true) (k14 : PySem.W.keepIn K (.ref f14) = true)
    (a15 : PySem.W.nsIn K mainGlobals "has_bit" = some (some (.ref f15))) (l15 : K.lookup f15 = some ⟨oc15, od15, .func (PySem.W.fnOf "has_bit" "has_bit" (defArgs s_has_bit) (defBody s_has_bit) (defScope s_has_bit) .none kV15 dc15 pm15 an15 cd15 ct15), sl15⟩) (c15 : PySem.W.codeIn K cd15 "has_bit" = true) (k15 : PySem.W.keepIn K (.ref f15) = true)
    (a16 : PySem.W.nsIn K mainGlobals "open_tasks" = some (some (.ref f16))) (l16 : K.lookup f16 = some ⟨oc16, od16, .func (PySem.W.fnOf "open_tasks" "open_tasks" (defArgs s_open_tasks) (defBody s_open_tasks) (defScope s_open_tasks) .none kV16 dc16 pm16 an16 cd16 ct16), sl16⟩) (c16 : PySem.W.codeIn K cd16 "open_tasks" = true) (k16 : PySem.W.keepIn K (.ref f16) = true)
    (a17 : PySem.W.nsIn K mainGlobals "best_by_sets" = some (some (.ref f17))) (l17 : K.lookup f17 = some ⟨oc17, od17, .func (PySem.W.fnOf "best_by_sets" "best_by_sets" (defArgs s_best_by_sets) (defBody s_best_by_sets) (defScope s_best_by_sets) .none kV17 dc17 pm17 an17 cd17 ct17), sl17⟩) (c17 : PySem.W.codeIn K cd17 "best_by_sets" = true) (k17 : PySem.W.keepIn K (.ref f17) = true)
    (a18 : PySem.W.nsIn K mainGlobals "best_run" = some (some (.ref f18))) (l18 : K.lookup f18 = some ⟨oc18, od18, .func (PySem.W.fnOf "best_run" "best_run" (defArgs s_best_run) (defBody s_best_run) (defScope s_best_run) .none kV18 dc18 pm18 an18 cd18 ct18), sl18⟩) (c18 : PySem.W.codeIn K cd18 "best_run" = true) (k18 : PySem.W.keepIn K (.ref f18) = true)
    (a19 : PySem.W.nsIn K mainGlobals "is_order" = some (some (.ref f19))) (l19 : K.lookup f19 = some ⟨oc19, od19, .func (PySem.W.fnOf "is_order" "is_order" (defArgs s_is_order) (defBody s_is_order) (defScope s_is_order) .none kV19 dc19 pm19 an19 cd19 ct19), sl19⟩) (c19 : PySem.W.codeIn K cd19 "is_order" = true) (k19 : PySem.W.keepIn K (.ref f19) = true)
    (a20 : PySem.W.nsIn K mainGlobals "order_worth" = some (some (.ref f20))) (l20 : K.lookup f20 = some ⟨oc20, od20, .func (PySem.W.fnOf "order_worth" "order_worth" (defArgs s_order_worth) (defBody s_order_worth) (defScope s_order_worth) .none kV20 dc20 pm20 an20 cd20 ct20), sl20⟩) (c20 : PySem.W.codeIn K cd20 "order_worth" = true) (k20 : PySem.W.keepIn K (.ref f20) = true)
    (a21 : PySem.W.nsIn K mainGlobals "best_worth" = some (some (.ref f21))) (l21 : K.lookup f21 = some ⟨oc21, od21, .func (PySem.W.fnOf "best_worth" "best_worth" (defArgs s_best_worth) (defBody s_best_worth) (defScope s_best_worth) .none kV21 dc21 pm21 an21 cd21 ct21), sl21⟩) (c21 : PySem.W.codeIn K cd21 "best_worth" = true) (k21 : PySem.W.keepIn K (.ref f21) = true)
    (a22 : PySem.W.nsIn K mainGlobals "best_order" = some (some (.ref f22))) (l22 : K.lookup f22 = some ⟨oc22, od22, .func (PySem.W.fnOf "best_order" "best_order" (defArgs s_best_order) (defBody s_best_order) (defScope s_best_order) .none kV22 dc22 pm22 an22 cd22 ct22), sl22⟩) (c22 : PySem.W.codeIn K cd22 "best_order" = true) (k22 : PySem.W.keepIn K (.ref f22) = true)
    (a23 : PySem.W.nsIn K mainGlobals "_law_pen" = some (some (.ref f23))) (l23 : K.lookup f23 = some ⟨oc23, od23, .func (PySem.W.fnOf "_law_pen" "_law_pen" (defArgs s__law_pen) (defBody s__law_pen) (defScope s__law_pen) .none kV23 dc23 pm23 an23 cd23 ct23), sl23⟩) (c23 : PySem.W.codeIn K cd23 "_law_pen" = true) (k23 : PySem.W.keepIn K (.ref f23) = true)
    (a24 : PySem.W.nsIn K mainGlobals "_law_next" = some (some (.ref f24))) (l24 : K.lookup f24 = some ⟨oc24, od24, .func (PySem.W.fnOf "_law_next" "_law_next" (defArgs s__law_next) (defBody s__law_next) (defScope s__law_next) .none kV24 dc24 pm24 an24 cd24 ct24), sl24⟩) (c24 : PySem.W.codeIn K cd24 "_law_next" = true) (k24 : PySem.W.keepIn K (.ref f24) = true)
    (a25 : PySem.W.nsIn K mainGlobals "_law_draw" = some (some (.ref f25))) (l25 : K.lookup f25 = some ⟨oc25, od25, .func (PySem.W.fnOf "_law_draw" "_law_draw" (defArgs s__law_draw) (defBody s__law_draw) (defScope s__law_draw) .none kV25 dc25 pm25 an25 cd25 ct25), sl25⟩) (c25 : PySem.W.codeIn K cd25 "_law_draw" = true) (k25 : PySem.W.keepIn K (.ref f25) = true)
    (a26 : PySem.W.nsIn K mainGlobals "_law_low" = some (some (.ref f26))) (l26 : K.lookup f26 = some ⟨oc26, od26, .func (PySem.W.fnOf "_law_low" "_law_low" (defArgs s__law_low) (defBody s__law_low) (defScope s__law_low) .none kV26 dc26 pm26 an26 cd26 ct26), sl26⟩) (c26 : PySem.W.codeIn K cd26 "_law_low" = true) (k26 : PySem.W.keepIn K (.ref f26) = true)
    (a27 : PySem.W.nsIn K mainGlobals "_law_add" = some (some (.ref f27))) (l27 : K.lookup f27 = some ⟨oc27, od27, .func (PySem.W.fnOf "_law_add" "_law_add" (defArgs s__law_add) (defBody s__law_add) (defScope s__law_add) .none kV27 dc27 pm27 an27 cd27 ct27), sl27⟩) (c27 : PySem.W.codeIn K cd27 "_law_add" = true) (k27 : PySem.W.keepIn K (.ref f27) = true)
    (a28 : PySem.W.nsIn K mainGlobals "_law_mul" = some (some (.ref f28))) (l28 : K.lookup f28 = some ⟨oc28, od28, .func (PySem.W.fnOf "_law_mul" "_law_mul" (defArgs s__law_mul) (defBody s__law_mul) (defScope s__law_mul) .none kV28 dc28 pm28 an28 cd28 ct28), sl28⟩) (c28 : PySem.W.codeIn K cd28 "_law_mul" = true) (k28 : PySem.W.keepIn K (.ref f28) = true)
    (a29 : PySem.W.nsIn K mainGlobals "_law_less" = some (some (.ref f29))) (l29 : K.lookup f29 = some ⟨oc29, od29, .func (PySem.W.fnOf "_law_less" "_law_less" (defArgs s__law_less) (defBody s__law_less) (defScope s__law_less) .none kV29 dc29 pm29 an29 cd29 ct29), sl29⟩) (c29 : PySem.W.codeIn K cd29 "_law_less" = true) (k29 : PySem.W.keepIn K (.ref f29) = true)
    (a30 : PySem.W.nsIn K mainGlobals "_law_most" = some (some (.ref f30))) (l30 : K.lookup f30 = some ⟨oc30, od30, .func (PySem.W.fnOf "_law_most" "_law_most" (defArgs s__law_most) (defBody s__law_most) (defScope s__law_most) .none kV30 dc30 pm30 an30 cd30 ct30), sl30⟩) (c30 : PySem.W.codeIn K cd30 "_law_most" = true) (k30 : PySem.W.keepIn K (.ref f30) = true)
    (a31 : PySem.W.nsIn K mainGlobals "_law_pay" = some (some (.ref f31))) (l31 : K.lookup f31 = some ⟨oc31, od31, .func (PySem.W.fnOf "_law_pay" "_law_pay" (defArgs s__law_pay) (defBody s__law_pay) (defScope s__law_pay) .none kV31 dc31 pm31 an31 cd31 ct31), sl31⟩) (c31 : PySem.W.codeIn K cd31 "_law_pay" = true) (k31 : PySem.W.keepIn K (.ref f31) = true)
    (a32 : PySem.W.nsIn K mainGlobals "_law_factor" = some (some (.ref f32))) (l32 : K.lookup f32 = some ⟨oc32, od32, .func (PySem.W.fnOf "_law_factor" "_law_factor" (defArgs s__law_factor) (defBody s__law_factor) (defScope s__law_factor) .none kV32 dc32 pm32 an32 cd32 ct32), sl32⟩) (c32 : PySem.W.codeIn K cd32 "_law_factor" = true) (k32 : PySem.W.keepIn K (.ref f32) = true)
    (a33 : PySem.W.nsIn K mainGlobals "_law_forest" = some (some (.ref f33))) (l33 : K.lookup f33 = some ⟨oc33, od33, .func (PySem.W.fnOf "_law_forest" "_law_forest" (defArgs s__law_forest) (defBody s__law_forest) (defScope s__law_forest) .none kV33 dc33 pm33 an33 cd33 ct33), sl33⟩) (c33 : PySem.W.codeIn K cd33 "_law_forest" = true) (k33 : PySem.W.keepIn K (.ref f33) = true)
    (a34 : PySem.W.nsIn K mainGlobals "_law_orders" = some (some (.ref f34))) (l34 : K.lookup f34 = some ⟨oc34, od34, .func (PySem.W.fnOf "_law_orders" "_law_orders" (defArgs s__law_orders) (defBody s__law_orders) (defScope s__law_orders) .none kV34 dc34 pm34 an34 cd34 ct34), sl34⟩) (c34 : PySem.W.codeIn K cd34 "_law_orders" = true) (k34 : PySem.W.keepIn K (.ref f34) = true)
    (a35 : PySem.W.nsIn K mainGlobals "_law_run" = some (some (.ref f35))) (l35 : K.lookup f35 = some ⟨oc35, od35, .func (PySem.W.fnOf "_law_run" "_law_run" (defArgs s__law_run) (defBody s__law_run) (defScope s__law_run) .none kV35 dc35 pm35 an35 cd35 ct35), sl35⟩) (c35 : PySem.W.codeIn K cd35 "_law_run" = true) (k35 : PySem.W.keepIn K (.ref f35) = true)
    (a36 : PySem.W.nsIn K mainGlobals "_law_by_sets" = some (some (.ref f36))) (l36 : K.lookup f36 = some ⟨oc36, od36, .func (PySem.W.fnOf "_law_by_sets" "_law_by_sets" (defArgs s__law_by_sets) (defBody s__law_by_sets) (defScope s__law_by_sets) .none kV36 dc36 pm36 an36 cd36 ct36), sl36⟩) (c36 : PySem.W.codeIn K cd36 "_law_by_sets" = true) (k36 : PySem.W.keepIn K (.ref f36) = true)
    (a37 : PySem.W.nsIn K mainGlobals "law" = some (some (.ref f37))) (l37 : K.lookup f37 = some ⟨oc37, od37, .func (PySem.W.fnOf "law" "law" (defArgs s_law) (defBody s_law) (defScope s_law) .none kV37 dc37 pm37 an37 cd37 ct37), sl37⟩) (c37 : PySem.W.codeIn K cd37 "law" = true) (k37 : PySem.W.keepIn K (.ref f37) = true)
    (z_abs : PySem.W.nsIn K mainGlobals "abs" = some none)
    (z_all : PySem.W.nsIn K mainGlobals "all" = some none)
    (z_bool : PySem.W.nsIn K mainGlobals "bool" = some none)
    (z_enumerate : PySem.W.nsIn K mainGlobals "enumerate" = some none)
    (z_int : PySem.W.nsIn K mainGlobals "int" = some none)
    (z_isinstance : PySem.W.nsIn K mainGlobals "isinstance" = some none)
    (z_len : PySem.W.nsIn K mainGlobals "len" = some none)
    (z_list : PySem.W.nsIn K mainGlobals "list" = some none)
    (z_range : PySem.W.nsIn K mainGlobals "range" = some none)
    (z_repr : PySem.W.nsIn K mainGlobals "repr" = some none)
    (z_reversed : PySem.W.nsIn K mainGlobals "reversed" = some none)
    (z_sorted : PySem.W.nsIn K mainGlobals "sorted" = some none)
    (z_tuple : PySem.W.nsIn K mainGlobals "tuple" = some none)
    (z_gcd : PySem.W.nsIn K mainGlobals "gcd" = some (some (.builtin "math.gcd")))
    (zZ : PySem.W.nsIn K mainGlobals "ZERO" = some (some (.ref aZ))) (lZ : K.lookup aZ = some ⟨.type "tuple", ddZ, .seq #[.int 0 tZ, .int 1 uZ] nZ, slZ⟩)
    (zMOST_TASKS : PySem.W.nsIn K mainGlobals "MOST_TASKS" = some (some (.int 8 tMOST_TASKS)))
    (zO : PySem.W.nsIn K mainGlobals "ONE" = some (some (.ref aO))) (lO : K.lookup aO = some ⟨.type "tuple", ddO, .seq #[.int 1 tO, .int 1 uO] nO, slO⟩)
    (tA : cd10 = .ref cA) (uA : K.lookup cA = some ⟨ocA, ddA, .fields vsA, slA⟩) (vA : vsA[11]? = some (.ref PA)) (nA : K.lookup PA = none) (hA : CodeK ocA vsA cA PA) :
    ∃ (fd : FuncData) (cs : List (Addr × Addr)), (∀ p ∈ cs, h.get? p.2 = some { cls := .none, data := .fields #[] }) ∧ (∀ p ∈ cs, K.lookup p.2 = none) ∧ (∀ p ∈ cs, PySem.W.CodeHd h p.1 p.2) ∧ (∀ (s : Shared) (u : Value), BindsTo s fd ⟨[u], []⟩ [("_law_script", u)]) ∧
      (∀ (H : Hp) (a : Addr) (ns : List Int), ns.length ≤ 63 → (∀ p ∈ cs, H p.2 = some (.tbl #[])) → SqL K H a (ns.map V.int) → spLaw K PA [.ref a] H (fun v _ => v = .bl true) E0) ∧
      ∀ base : Heap, K.In base → base.Ns mainGlobals mg → (∀ p ∈ cs, GxR.TabB base mg p.1 p.2) → FnG l.prog w K mg base 10 fa fd ["_law_script"] (spLaw K PA) := by
  have e := hfa.symm.trans (PySem.W.mg_of X G a37)
  cases e
  let T : Txt K mg := {
    d_is_whole := ⟨f1, _, fun_mk (st := s_is_whole) l1 c1 k1, (fun_mk (st := s_is_whole) l1 c1 k1).binds (ps := ["value"]) (fun _ _ _ _ _ _ us hl => match us, hl with | [_], _ => rfl), PySem.W.mg_of X G a1⟩,
    d_is_number_below := ⟨f2, _, fun_mk (st := s_is_number_below) l2 c2 k2, (fun_mk (st := s_is_number_below) l2 c2 k2).binds (ps := ["value", "count"]) (fun _ _ _ _ _ _ us hl => match us, hl with | [_, _], _ => rfl), PySem.W.mg_of X G a2⟩,
    d_is_fraction := ⟨f3, _, fun_mk (st := s_is_fraction) l3 c3 k3, (fun_mk (st := s_is_fraction) l3 c3 k3).binds (ps := ["value"]) (fun _ _ _ _ _ _ us hl => match us, hl with | [_], _ => rfl), PySem.W.mg_of X G a3⟩,
    d_is_from_zero := ⟨f4, _, fun_mk (st := s_is_from_zero) l4 c4 k4, (fun_mk (st := s_is_from_zero) l4 c4 k4).binds (ps := ["value"]) (fun _ _ _ _ _ _ us hl => match us, hl with | [_], _ => rfl), PySem.W.mg_of X G a4⟩,
    d_lowest := ⟨f5, _, fun_mk (st := s_lowest) l5 c5 k5, (fun_mk (st := s_lowest) l5 c5 k5).binds (ps := ["top", "bottom"]) (fun _ _ _ _ _ _ us hl => match us, hl with | [_, _], _ => rfl), PySem.W.mg_of X G a5⟩,
    d_add := ⟨f6, _, fun_mk (st := s_add) l6 c6 k6, (fun_mk (st := s_add) l6 c6 k6).binds (ps := ["one", "other"]) (fun _ _ _ _ _ _ us hl => match us, hl with | [_, _], _ => rfl), PySem.W.mg_of X G a6⟩,
    d_subtract := ⟨f7, _, fun_mk (st := s_subtract) l7 c7 k7, (fun_mk (st := s_subtract) l7 c7 k7).binds (ps := ["one", "other"]) (fun _ _ _ _ _ _ us hl => match us, hl with | [_, _], _ => rfl), PySem.W.mg_of X G a7⟩,
    d_multiply := ⟨f8, _, fun_mk (st := s_multiply) l8 c8 k8, (fun_mk (st := s_multiply) l8 c8 k8).binds (ps := ["one", "other"]) (fun _ _ _ _ _ _ us hl => match us, hl with | [_, _], _ => rfl), PySem.W.mg_of X G a8⟩,
    d_is_task := ⟨f9, _, fun_mk (st := s_is_task) l9 c9 k9, (fun_mk (st := s_is_task) l9 c9 k9).binds (ps := ["value", "number"]) (fun _ _ _ _ _ _ us hl => match us, hl with | [_, _], _ => rfl), PySem.W.mg_of X G a9⟩,
    d_is_forest := ⟨f10, _, fun_mk (st := s_is_forest) l10 c10 k10, (fun_mk (st := s_is_forest) l10 c10 k10).binds (ps := ["value"]) (fun _ _ _ _ _ _ us hl => match us, hl with | [_], _ => rfl), PySem.W.mg_of X G a10⟩,
    d_require_forest := ⟨f11, _, fun_mk (st := s_require_forest) l11 c11 k11, (fun_mk (st := s_require_forest) l11 c11 k11).binds (ps := ["value"]) (fun _ _ _ _ _ _ us hl => match us, hl with | [_], _ => rfl), PySem.W.mg_of X G a11⟩,
    d_is_sequence := ⟨f12, _, fun_mk (st := s_is_sequence) l12 c12 k12, (fun_mk (st := s_is_sequence) l12 c12 k12).binds (ps := ["parents", "value"]) (fun _ _ _ _ _ _ us hl => match us, hl with | [_, _], _ => rfl), PySem.W.mg_of X G a12⟩,
    d_parents_of := ⟨f13, _, fun_mk (st := s_parents_of) l13 c13 k13, (fun_mk (st := s_parents_of) l13 c13 k13).binds (ps := ["forest"]) (fun _ _ _ _ _ _ us hl => match us, hl with | [_], _ => rfl), PySem.W.mg_of X G a13⟩,
    d_run_of := ⟨f14, _, fun_mk (st := s_run_of) l14 c14 k14, (fun_mk (st := s_run_of) l14 c14 k14).binds (ps := ["forest", "tasks"]) (fun _ _ _ _ _ _ us hl => match us, hl with | [_, _], _ => rfl), PySem.W.mg_of X G a14⟩,
    d_has_bit := ⟨f15, _, fun_mk (st := s_has_bit) l15 c15 k15, (fun_mk (st := s_has_bit) l15 c15 k15).binds (ps := ["bits", "number"]) (fun _ _ _ _ _ _ us hl => match us, hl with | [_, _], _ => rfl), PySem.W.mg_of X G a15⟩,
    d_open_tasks := ⟨f16, _, fun_mk (st := s_open_tasks) l16 c16 k16, (fun_mk (st := s_open_tasks) l16 c16 k16).binds (ps := ["forest", "done"]) (fun _ _ _ _ _ _ us hl => match us, hl with | [_, _], _ => rfl), PySem.W.mg_of X G a16⟩,
    d_best_by_sets := ⟨f17, _, fun_mk (st := s_best_by_sets) l17 c17 k17, (fun_mk (st := s_best_by_sets) l17 c17 k17).binds (ps := ["forest"]) (fun _ _ _ _ _ _ us hl => match us, hl with | [_], _ => rfl), PySem.W.mg_of X G a17⟩,
    d_best_run := ⟨f18, _, fun_mk (st := s_best_run) l18 c18 k18, (fun_mk (st := s_best_run) l18 c18 k18).binds (ps := ["forest"]) (fun _ _ _ _ _ _ us hl => match us, hl with | [_], _ => rfl), PySem.W.mg_of X G a18⟩,
    d_is_order := ⟨f19, _, fun_mk (st := s_is_order) l19 c19 k19, (fun_mk (st := s_is_order) l19 c19 k19).binds (ps := ["forest", "value"]) (fun _ _ _ _ _ _ us hl => match us, hl with | [_, _], _ => rfl), PySem.W.mg_of X G a19⟩,
    d_order_worth := ⟨f20, _, fun_mk (st := s_order_worth) l20 c20 k20, (fun_mk (st := s_order_worth) l20 c20 k20).binds (ps := ["forest", "order"]) (fun _ _ _ _ _ _ us hl => match us, hl with | [_, _], _ => rfl), PySem.W.mg_of X G a20⟩,
    d_best_worth := ⟨f21, _, fun_mk (st := s_best_worth) l21 c21 k21, (fun_mk (st := s_best_worth) l21 c21 k21).binds (ps := ["forest"]) (fun _ _ _ _ _ _ us hl => match us, hl with | [_], _ => rfl), PySem.W.mg_of X G a21⟩,
    d_best_order := ⟨f22, _, fun_mk (st := s_best_order) l22 c22 k22, (fun_mk (st := s_best_order) l22 c22 k22).binds (ps := ["forest"]) (fun _ _ _ _ _ _ us hl => match us, hl with | [_], _ => rfl), PySem.W.mg_of X G a22⟩,
    d__law_pen := ⟨f23, _, fun_mk (st := s__law_pen) l23 c23 k23, (fun_mk (st := s__law_pen) l23 c23 k23).binds (ps := ["_law_script"]) (fun _ _ _ _ _ _ us hl => match us, hl with | [_], _ => rfl), PySem.W.mg_of X G a23⟩,
    d__law_next := ⟨f24, _, fun_mk (st := s__law_next) l24 c24 k24, (fun_mk (st := s__law_next) l24 c24 k24).binds (ps := ["_law_pen_here"]) (fun _ _ _ _ _ _ us hl => match us, hl with | [_], _ => rfl), PySem.W.mg_of X G a24⟩,
    d__law_draw := ⟨f25, _, fun_mk (st := s__law_draw) l25 c25 k25, (fun_mk (st := s__law_draw) l25 c25 k25).binds (ps := ["_law_pen_here", "_law_under"]) (fun _ _ _ _ _ _ us hl => match us, hl with | [_, _], _ => rfl), PySem.W.mg_of X G a25⟩,
    d__law_low := ⟨f26, _, fun_mk (st := s__law_low) l26 c26 k26, (fun_mk (st := s__law_low) l26 c26 k26).binds (ps := ["_law_top", "_law_bottom"]) (fun _ _ _ _ _ _ us hl => match us, hl with | [_, _], _ => rfl), PySem.W.mg_of X G a26⟩,
    d__law_add := ⟨f27, _, fun_mk (st := s__law_add) l27 c27 k27, (fun_mk (st := s__law_add) l27 c27 k27).binds (ps := ["_law_one", "_law_other"]) (fun _ _ _ _ _ _ us hl => match us, hl with | [_, _], _ => rfl), PySem.W.mg_of X G a27⟩,
    d__law_mul := ⟨f28, _, fun_mk (st := s__law_mul) l28 c28 k28, (fun_mk (st := s__law_mul) l28 c28 k28).binds (ps := ["_law_one", "_law_other"]) (fun _ _ _ _ _ _ us hl => match us, hl with | [_, _], _ => rfl), PySem.W.mg_of X G a28⟩,
    d__law_less := ⟨f29, _, fun_mk (st := s__law_less) l29 c29 k29, (fun_mk (st := s__law_less) l29 c29 k29).binds (ps := ["_law_one", "_law_other"]) (fun _ _ _ _ _ _ us hl => match us, hl with | [_, _], _ => rfl), PySem.W.mg_of X G a29⟩,
    d__law_most := ⟨f30, _, fun_mk (st := s__law_most) l30 c30 k30, (fun_mk (st := s__law_most) l30 c30 k30).binds (ps := ["_law_some"]) (fun _ _ _ _ _ _ us hl => match us, hl with | [_], _ => rfl), PySem.W.mg_of X G a30⟩,
    d__law_pay := ⟨f31, _, fun_mk (st := s__law_pay) l31 c31 k31, (fun_mk (st := s__law_pay) l31 c31 k31).binds (ps := ["_law_pen_here"]) (fun _ _ _ _ _ _ us hl => match us, hl with | [_], _ => rfl), PySem.W.mg_of X G a31⟩,
    d__law_factor := ⟨f32, _, fun_mk (st := s__law_factor) l32 c32 k32, (fun_mk (st := s__law_factor) l32 c32 k32).binds (ps := ["_law_pen_here"]) (fun _ _ _ _ _ _ us hl => match us, hl with | [_], _ => rfl), PySem.W.mg_of X G a32⟩,
    d__law_forest := ⟨f33, _, fun_mk (st := s__law_forest) l33 c33 k33, (fun_mk (st := s__law_forest) l33 c33 k33).binds (ps := ["_law_pen_here", "_law_most_here"]) (fun _ _ _ _ _ _ us hl => match us, hl with | [_, _], _ => rfl), PySem.W.mg_of X G a33⟩,
    d__law_orders := ⟨f34, _, fun_mk (st := s__law_orders) l34 c34 k34, (fun_mk (st := s__law_orders) l34 c34 k34).binds (ps := ["_law_forest_here"]) (fun _ _ _ _ _ _ us hl => match us, hl with | [_], _ => rfl), PySem.W.mg_of X G a34⟩,
    d__law_run := ⟨f35, _, fun_mk (st := s__law_run) l35 c35 k35, (fun_mk (st := s__law_run) l35 c35 k35).binds (ps := ["_law_forest_here", "_law_order"]) (fun _ _ _ _ _ _ us hl => match us, hl with | [_, _], _ => rfl), PySem.W.mg_of X G a35⟩,
    d__law_by_sets := ⟨f36, _, fun_mk (st := s__law_by_sets) l36 c36 k36, (fun_mk (st := s__law_by_sets) l36 c36 k36).binds (ps := ["_law_forest_here"]) (fun _ _ _ _ _ _ us hl => match us, hl with | [_], _ => rfl), PySem.W.mg_of X G a36⟩,
    d_law := ⟨fa, _, fun_mk (st := s_law) l37 c37 k37, (fun_mk (st := s_law) l37 c37 k37).binds (ps := ["_law_script"]) (fun _ _ _ _ _ _ us hl => match us, hl with | [_], _ => rfl), PySem.W.mg_of X G a37⟩,
    n_abs := PySem.W.mg_none_of X G z_abs,
    n_all := PySem.W.mg_none_of X G z_all,
    n_bool := PySem.W.mg_none_of X G z_bool,
    n_enumerate := PySem.W.mg_none_of X G z_enumerate,
    n_int := PySem.W.mg_none_of X G z_int,
    n_isinstance := PySem.W.mg_none_of X G z_isinstance,
    n_len := PySem.W.mg_none_of X G z_len,
    n_list := PySem.W.mg_none_of X G z_list,
    n_range := PySem.W.mg_none_of X G z_range,
    n_repr := PySem.W.mg_none_of X G z_repr,
    n_reversed := PySem.W.mg_none_of X G z_reversed,
    n_sorted := PySem.W.mg_none_of X G z_sorted,
    n_tuple := PySem.W.mg_none_of X G z_tuple,
    n_gcd := PySem.W.mg_of X G z_gcd,
    a_ZERO := aZ, c_ZERO := PySem.W.mg_of X G zZ, k_ZERO := ⟨_, _, _, lZ, rfl, rfl, (by show 2 ≤ sizeLine; decide), .cons ⟨_, rfl⟩ (.cons ⟨_, rfl⟩ .nil)⟩,
    t_MOST_TASKS := tMOST_TASKS, c_MOST_TASKS := PySem.W.mg_of X G zMOST_TASKS,
    a_ONE := aO, c_ONE := PySem.W.mg_of X G zO, k_ONE := ⟨_, _, _, lO, rfl, rfl, (by show 2 ≤ sizeLine; decide), .cons ⟨_, rfl⟩ (.cons ⟨_, rfl⟩ .nil)⟩,
    c_is_forest := cA, P_is_forest := PA, h_is_forest := tA }
  refine ⟨PySem.W.fnOf "law" "law" (defArgs s_law) (defBody s_law) (defScope s_law) .none kV37 dc37 pm37 an37 cd37 ct37, [(cA, PA)], ?_, ?_, ?_, fun s v => .of_eq rfl, ?_, fun base _ _ hb => ok_law T (hb (cA, PA) (by simp))⟩
  · intro p hp
    rw [List.mem_singleton] at hp
    subst hp
    exact hE f10 cA PA _ _ _ _ _ _ (PySem.W.mg_of X G a10) l10 rfl tA uA vA
  · intro p hp
    rw [List.mem_singleton] at hp
    subst hp
    exact nA
  · intro p hp
    rw [List.mem_singleton] at hp
    subst hp
    obtain ⟨file, tf, flags, tg, inF, text, tt, h1, h2, h3, h4, h5, h6, h7⟩ := hA
    exact ⟨_, vsA, file, tf, flags, tg, inF, text, tt, X _ _ uA, h1, rfl, vA, h2, h3, h4, h5, h6, h7⟩
  · intro H a ns hl hT hS
    exact ⟨a, ns, rfl, hS, hl, ⟨#[], hT (cA, PA) (by simp), trivial⟩, fun _ => rfl⟩
end Jf
open PySem PySem.W PyProof.Rows
set_option maxRecDepth 100000 in
set_option maxHeartbeats 0 in
theorem PySem.Challenge.cw_onenumber_k54_best_orders_holds : PySem.Challenge.rw_onenumber_k54_best_orders.Holds := by
  w_on; o_law; k_head; (case hw => w_witness2)
  k_fill
  refine' Jf.walk_ofGK (l := PySem.Challenge.rw_onenumber_k54_best_orders) (n := 63) (k := 10) (x := "_law_script") (y := "is_forest") (sp := Jf.spLaw) rfl (by decide) rfl ⟨rfl, by decide, by decide⟩ (by decide) (fun w h Y => PySem.W.kIn_of Y) ?F
  case F =>
    intro w mg fa h KX G hmg hE
    refine' Jf.all_mk KX G hmg hE ?a1 ?l1 ?c1 ?k1 ?a2 ?l2 ?c2 ?k2 ?a3 ?l3 ?c3 ?k3 ?a4 ?l4 ?c4 ?k4 ?a5 ?l5 ?c5 ?k5 ?a6 ?l6 ?c6 ?k6 ?a7 ?l7 ?c7 ?k7 ?a8 ?l8 ?c8 ?k8 ?a9 ?l9 ?c9 ?k9 ?a10 ?l10 ?c10 ?k10 ?a11 ?l11 ?c11 ?k11 ?a12 ?l12 ?c12 ?k12 ?a13 ?l13 ?c13 ?k13 ?a14 ?l14 ?c14 ?k14 ?a15 ?l15 ?c15 ?k15 ?a16 ?l16 ?c16 ?k16 ?a17 ?l17 ?c17 ?k17 ?a18 ?l18 ?c18 ?k18 ?a19 ?l19 ?c19 ?k19 ?a20 ?l20 ?c20 ?k20 ?a21 ?l21 ?c21 ?k21 ?a22 ?l22 ?c22 ?k22 ?a23 ?l23 ?c23 ?k23 ?a24 ?l24 ?c24 ?k24 ?a25 ?l25 ?c25 ?k25 ?a26 ?l26 ?c26 ?k26 ?a27 ?l27 ?c27 ?k27 ?a28 ?l28 ?c28 ?k28 ?a29 ?l29 ?c29 ?k29 ?a30 ?l30 ?c30 ?k30 ?a31 ?l31 ?c31 ?k31 ?a32 ?l32 ?c32 ?k32 ?a33 ?l33 ?c33 ?k33 ?a34 ?l34 ?c34 ?k34 ?a35 ?l35 ?c35 ?k35 ?a36 ?l36 ?c36 ?k36 ?a37 ?l37 ?c37 ?k37 ?z_abs ?z_all ?z_bool ?z_enumerate ?z_int ?z_isinstance ?z_len ?z_list ?z_range ?z_repr ?z_reversed ?z_sorted ?z_tuple ?z_gcd ?zZ ?lZ ?zMOST_TASKS ?zO ?lO ?tA ?uA ?vA ?nA ?hA
    (case a1 => k_is)
    (case l1 => k_is)
    (case c1 => k_is)
    (case k1 => k_is)
    (case a2 => k_is)
    (case l2 => k_is)
    (case c2 => k_is)
    (case k2 => k_is)
    (case a3 => k_is)
    (case l3 => k_is)
    (case c3 => k_is)
    (case k3 => k_is)
    (case a4 => k_is)
    (case l4 => k_is)
    (case c4 => k_is)
    (case k4 => k_is)
    (case a5 => k_is)
    (case l5 => k_is)
    (case c5 => k_is)
    (case k5 => k_is)
    (case a6 => k_is)
    (case l6 => k_is)
    (case c6 => k_is)
    (case k6 => k_is)
    (case a7 => k_is)
    (case l7 => k_is)
    (case c7 => k_is)
    (case k7 => k_is)
    (case a8 => k_is)
    (case l8 => k_is)
    (case c8 => k_is)
    (case k8 => k_is)
    (case a9 => k_is)
    (case l9 => k_is)
    (case c9 => k_is)
    (case k9 => k_is)
    (case a10 => k_is)
    (case l10 => k_is)
    (case c10 => k_is)
    (case k10 => k_is)
    (case a11 => k_is)
    (case l11 => k_is)
    (case c11 => k_is)
    (case k11 => k_is)
    (case a12 => k_is)
    (case l12 => k_is)
    (case c12 => k_is)
    (case k12 => k_is)
    (case a13 => k_is)
    (case l13 => k_is)
    (case c13 => k_is)
    (case k13 => k_is)
    (case a14 => k_is)
    (case l14 => k_is)
    (case c14 => k_is)
    (case k14 => k_is)
    (case a15 => k_is)
    (case l15 => k_is)
    (case c15 => k_is)
    (case k15 => k_is)
    (case a16 => k_is)
    (case l16 => k_is)
    (case c16 => k_is)
    (case k16 => k_is)
    (case a17 => k_is)
    (case l17 => k_is)
    (case c17 => k_is)
    (case k17 => k_is)
    (case a18 => k_is)
    (case l18 => k_is)
    (case c18 => k_is)
    (case k18 => k_is)
    (case a19 => k_is)
    (case l19 => k_is)
    (case c19 => k_is)
    (case k19 => k_is)
    (case a20 => k_is)
    (case l20 => k_is)
    (case c20 => k_is)
    (case k20 => k_is)
    (case a21 => k_is)
    (case l21 => k_is)
    (case c21 => k_is)
    (case k21 => k_is)
    (case a22 => k_is)
    (case l22 => k_is)
    (case c22 => k_is)
    (case k22 => k_is)
    (case a23 => k_is)
    (case l23 => k_is)
    (case c23 => k_is)
    (case k23 => k_is)
    (case a24 => k_is)
    (case l24 => k_is)
    (case c24 => k_is)
    (case k24 => k_is)
    (case a25 => k_is)
    (case l25 => k_is)
    (case c25 => k_is)
    (case k25 => k_is)
    (case a26 => k_is)
    (case l26 => k_is)
    (case c26 => k_is)
    (case k26 => k_is)
    (case a27 => k_is)
    (case l27 => k_is)
    (case c27 => k_is)
    (case k27 => k_is)
    (case a28 => k_is)
    (case l28 => k_is)
    (case c28 => k_is)
    (case k28 => k_is)
    (case a29 => k_is)
    (case l29 => k_is)
    (case c29 => k_is)
    (case k29 => k_is)
    (case a30 => k_is)
    (case l30 => k_is)
    (case c30 => k_is)
    (case k30 => k_is)
    (case a31 => k_is)
    (case l31 => k_is)
    (case c31 => k_is)
    (case k31 => k_is)
    (case a32 => k_is)
    (case l32 => k_is)
    (case c32 => k_is)
    (case k32 => k_is)
    (case a33 => k_is)
    (case l33 => k_is)
    (case c33 => k_is)
    (case k33 => k_is)
    (case a34 => k_is)
    (case l34 => k_is)
    (case c34 => k_is)
    (case k34 => k_is)
    (case a35 => k_is)
    (case l35 => k_is)
    (case c35 => k_is)
    (case k35 => k_is)
    (case a36 => k_is)
    (case l36 => k_is)
    (case c36 => k_is)
    (case k36 => k_is)
    (case a37 => k_is)
    (case l37 => k_is)
    (case c37 => k_is)
    (case k37 => k_is)
    (case z_abs => k_is)
    (case z_all => k_is)
    (case z_bool => k_is)
    (case z_enumerate => k_is)
    (case z_int => k_is)
    (case z_isinstance => k_is)
    (case z_len => k_is)
    (case z_list => k_is)
    (case z_range => k_is)
    (case z_repr => k_is)
    (case z_reversed => k_is)
    (case z_sorted => k_is)
    (case z_tuple => k_is)
    (case z_gcd => k_is)
    (case zZ => k_is)
    (case lZ => k_is)
    (case zMOST_TASKS => k_is)
    (case zO => k_is)
    (case lO => k_is)
    (case tA => rfl)
    (case uA => k_is)
    (case vA => rfl)
    (case nA => rfl)
    (case hA => exact ⟨_, _, _, _, _, _, _, rfl, rfl, rfl, rfl, rfl, rfl, by decide⟩)
