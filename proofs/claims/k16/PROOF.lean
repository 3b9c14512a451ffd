import PyProof.Rows.All
import PyProof.ListStr
import HandS.StrMore
import Wide.All
import OpenK.AllK
import Wide.FinOn
import HandS.ForMost
import HandS.Evl
import HandS.Gcd
import HandS.Wide
import HandS.Flow
import HandS.NoneIn
import HandS.IsInst
import HandS.Exc
import HandS.TryOnly
import HandS.ExcOwn
import HandS.WordsExc
import HandS.ExcInit
import HandS.ExcField
import HandS.ExcIs
import HandS.SetFor
import HandS.TupLe
import HandS.TryMany
import HandS.TupMul
import HandS.TupAny
import HandS.Style
import HandS.Deep
import KE.KExcIs
import PyProof.ReprRoads
import HandS.AnyAll
import PyProof.WalksPairs
import PyProof.GenCompT
import PyProof.SumAny
import HandS.GenList
import KE.KTypeName
import PyProof.ListCopy
import KE.KRevSl
import HandS.Walk
import HandS.Rev
import HandS.RevRange
import HandS.Conv
import HandS.WideBits
import HandS.Small
import KE.BitLaws
import PyProof.EnumMake
import PyProof.TupleIter
import HandS.Lambda
import KE.GoesEnumKw
import HandS.SortKw
import HandS.SortOrd
import HandS.More
import HandS.DictTup
import HandS.SortInts
import KE.KDictDisplayH
import HandS.EndBits
import PyProof.Rows.RuleB_pow
import KE.SortCalls
import HandS.Call
import HandS.Text
import PySem.Challenge.RW_onenumber_k16_texts_of_none
set_option Elab.async false
set_option linter.all false
/-! fractions as core rationals -/
namespace Jf
theorem gcd_pos {n d : Int} (hd : d ≠ 0) : 0 < Nat.gcd n.natAbs d.natAbs := Nat.gcd_pos_of_pos_right _ (by omega)
theorem low_split (n d : Int) (hd : d ≠ 0) : ∃ (g : Nat) (k m : Int), g = Nat.gcd n.natAbs d.natAbs ∧ 0 < g ∧ n = (g : Int) * k ∧ d = (g : Int) * m ∧ (Rat.divInt n d).num = d.sign * k ∧ ((Rat.divInt n d).den : Int) = d.sign * m := by
  have h1 : ((Nat.gcd n.natAbs d.natAbs : Nat) : Int) ∣ n := Int.ofNat_dvd_left.mpr (Nat.gcd_dvd_left _ _)
  have h2 : ((Nat.gcd n.natAbs d.natAbs : Nat) : Int) ∣ d := Int.ofNat_dvd_left.mpr (Nat.gcd_dvd_right _ _)
  obtain ⟨k, hk⟩ := h1
  obtain ⟨m, hm⟩ := h2
  have hp := gcd_pos (n := n) hd
  refine ⟨_, k, m, rfl, hp, hk, hm, ?_, ?_⟩
  · have hg : (d.gcd n : Nat) = Nat.gcd n.natAbs d.natAbs := by rw [Int.gcd_comm]; rfl
    rw [Rat.num_divInt, hg]
    generalize hG : Nat.gcd n.natAbs d.natAbs = G at *
    have hG0 : (G : Int) ≠ 0 := by omega
    rw [hk, ← Int.mul_assoc, Int.mul_comm d.sign (G : Int), Int.mul_assoc, Int.mul_ediv_cancel_left _ hG0]
  · have hg : (d.gcd n : Nat) = Nat.gcd n.natAbs d.natAbs := by rw [Int.gcd_comm]; rfl
    rw [Rat.den_divInt, if_neg hd, hg]
    generalize hG : Nat.gcd n.natAbs d.natAbs = G at *
    have hG0 : (G : Int) ≠ 0 := by omega
    have e : d.natAbs = G * m.natAbs := by rw [hm, Int.natAbs_mul]; rfl
    rw [e, Nat.mul_div_cancel_left _ hp]
    have hs : d.sign = m.sign := by rw [hm, Int.sign_mul, Int.sign_natCast_of_ne_zero (by omega), Int.one_mul]
    rw [hs, Int.sign_mul_self]
/-- the program's lowest -/
theorem lowest_eq (n d : Int) (hd : d ≠ 0) :
    n.fdiv (if d < 0 then -((Nat.gcd n.natAbs d.natAbs : Nat) : Int) else ((Nat.gcd n.natAbs d.natAbs : Nat) : Int)) = (Rat.divInt n d).num ∧
    d.fdiv (if d < 0 then -((Nat.gcd n.natAbs d.natAbs : Nat) : Int) else ((Nat.gcd n.natAbs d.natAbs : Nat) : Int)) = ((Rat.divInt n d).den : Int) := by
  obtain ⟨g, k, m, hg, hp, hn, hm, e1, e2⟩ := low_split n d hd
  rw [← hg, e1, e2]
  have hg0 : (g : Int) ≠ 0 := by omega
  by_cases h : d < 0
  · rw [if_pos h, Int.sign_eq_neg_one_of_neg h]
    have hn' : n = (-(g : Int)) * (-k) := by rw [hn]; grind
    have hm' : d = (-(g : Int)) * (-m) := by rw [hm]; grind
    have hg1 : (-(g : Int)) ≠ 0 := by omega
    constructor
    · rw [hn', Int.mul_fdiv_cancel_left _ hg1]; omega
    · rw [hm', Int.mul_fdiv_cancel_left _ hg1]; omega
  · rw [if_neg h, Int.sign_eq_one_of_pos (by omega)]
    constructor
    · rw [hn, Int.mul_fdiv_cancel_left _ hg0]; omega
    · rw [hm, Int.mul_fdiv_cancel_left _ hg0]; omega
/-- the law's low -/
theorem low_eq (n d : Int) (hd : d ≠ 0) (s : Int) (hs : s = if d < 0 then -1 else 1) :
    (s * n) / ((Nat.gcd n.natAbs d.natAbs : Nat) : Int) = (Rat.divInt n d).num ∧ (s * d) / ((Nat.gcd n.natAbs d.natAbs : Nat) : Int) = ((Rat.divInt n d).den : Int) := by
  obtain ⟨g, k, m, hg, hp, hn, hm, e1, e2⟩ := low_split n d hd
  rw [← hg, e1, e2]
  have hg0 : (g : Int) ≠ 0 := by omega
  have hs' : s = d.sign := by
    by_cases h : d < 0
    · rw [hs, if_pos h, Int.sign_eq_neg_one_of_neg h]
    · rw [hs, if_neg h, Int.sign_eq_one_of_pos (by omega)]
  rw [hs']
  constructor
  · rw [show d.sign * n = (g : Int) * (d.sign * k) by rw [hn]; grind, Int.mul_ediv_cancel_left _ hg0]
  · rw [show d.sign * d = (g : Int) * (d.sign * m) by
      generalize d.sign = z
      rw [hm]; grind, Int.mul_ediv_cancel_left _ hg0]
theorem num_le (n d : Int) (hd : d ≠ 0) : (Rat.divInt n d).num.natAbs ≤ n.natAbs := by
  obtain ⟨g, k, m, hg, hp, hn, hm, e1, e2⟩ := low_split n d hd
  have hs : d.sign.natAbs = 1 := by rw [Int.natAbs_sign, if_neg hd]
  rw [e1, Int.natAbs_mul, hs, hn, Int.natAbs_mul, Nat.one_mul]
  exact Nat.le_mul_of_pos_left _ (by omega)
theorem den_le (n d : Int) (hd : d ≠ 0) : (Rat.divInt n d).den ≤ d.natAbs := by
  obtain ⟨g, k, m, hg, hp, hn, hm, e1, e2⟩ := low_split n d hd
  have hs : d.sign.natAbs = 1 := by rw [Int.natAbs_sign, if_neg hd]
  have e3 : (Rat.divInt n d).den = m.natAbs := by
    have := congrArg Int.natAbs e2
    rw [Int.natAbs_mul, hs, Nat.one_mul] at this
    simpa using this
  rw [e3]
  have : d.natAbs = g * m.natAbs := by rw [hm, Int.natAbs_mul]; rfl
  rw [this]
  exact Nat.le_mul_of_pos_left _ (by omega)
theorem den_pos (q : Rat) : (0 : Int) < (q.den : Int) := by have := q.den_pos; omega
theorem den_ne (q : Rat) : (q.den : Int) ≠ 0 := by have := q.den_pos; omega
theorem add_eq (q r : Rat) : Rat.divInt (q.num * r.den + r.num * q.den) (q.den * r.den) = q + r := by
  rw [← Rat.divInt_add_divInt _ _ (den_ne q) (den_ne r), Rat.num_divInt_den, Rat.num_divInt_den]
theorem sub_eq (q r : Rat) : Rat.divInt (q.num * r.den - r.num * q.den) (q.den * r.den) = q - r := by
  rw [← Rat.divInt_sub_divInt _ _ (den_ne q) (den_ne r), Rat.num_divInt_den, Rat.num_divInt_den]
theorem mul_eq (q r : Rat) : Rat.divInt (q.num * r.num) (q.den * r.den) = q * r := by
  rw [← Rat.divInt_mul_divInt, Rat.num_divInt_den, Rat.num_divInt_den]
theorem div_eq (q r : Rat) : Rat.divInt (q.num * r.den) (q.den * r.num) = q / r := by
  rw [Rat.div_def, Rat.inv_def, ← Rat.divInt_mul_divInt, Rat.num_divInt_den]
theorem num_ne {r : Rat} (h : r ≠ 0) : r.num ≠ 0 := fun e => h (Rat.num_eq_zero.mp e)
theorem red (q : Rat) : Nat.gcd q.num.natAbs (q.den : Int).natAbs = 1 := by
  have := q.reduced
  simpa [Nat.Coprime] using this
/-- compare -/
def cmp (q r : Rat) : Int := if q = r then 0 else if r < q then 1 else -1
theorem cmp_eq (q r : Rat) : (if (q - r).num = 0 then (0 : Int) else if 0 < (q - r).num then 1 else -1) = cmp q r := by
  unfold cmp
  have e : (q - r).num = 0 ↔ q = r := by
    rw [Rat.num_eq_zero]
    constructor <;> intro h <;> grind
  by_cases h : q = r
  · rw [if_pos (e.mpr h), if_pos h]
  · rw [if_neg (fun z => h (e.mp z)), if_neg h]
    have e2 : 0 < (q - r).num ↔ r < q := by
      have h1 : (0 : Int) ≤ (q - r).num ↔ 0 ≤ q - r := Rat.num_nonneg
      have h2 : (q - r).num ≠ 0 := fun z => h (e.mp z)
      constructor
      · intro z
        have := h1.mp (by omega)
        grind
      · intro z
        have : 0 ≤ q - r := by grind
        have := h1.mpr this
        omega
    by_cases z : r < q
    · rw [if_pos z, if_pos (e2.mpr z)]
    · rw [if_neg z, if_neg (fun y => z (e2.mp y))]
/-! bounds by powers of two -/
theorem lt_pow_mul {a b m n : Nat} (ha : a < 2 ^ m) (hb : b < 2 ^ n) : a * b < 2 ^ (m + n) := by
  rw [Nat.pow_add]
  exact Nat.mul_lt_mul'' ha hb
theorem lt_pow_add {a b n : Nat} (ha : a < 2 ^ n) (hb : b < 2 ^ n) : a + b < 2 ^ (n + 1) := by
  rw [Nat.pow_succ]; omega
theorem lt_pow_mono {a m n : Nat} (h : m ≤ n) (ha : a < 2 ^ m) : a < 2 ^ n := Nat.lt_of_lt_of_le ha (Nat.pow_le_pow_right (by decide) h)
theorem abs_add_le (a b : Int) : (a + b).natAbs ≤ a.natAbs + b.natAbs := by omega
theorem abs_sub_le (a b : Int) : (a - b).natAbs ≤ a.natAbs + b.natAbs := by omega
/-- a fraction within b bits -/
def Bd (b : Nat) (q : Rat) : Prop := q.num.natAbs < 2 ^ b ∧ q.den < 2 ^ b
theorem Bd.mono {b c : Nat} {q : Rat} (h : b ≤ c) (x : Bd b q) : Bd c q := ⟨lt_pow_mono h x.1, lt_pow_mono h x.2⟩
theorem bd_divInt {n d : Int} {b : Nat} (hd : d ≠ 0) (hn : n.natAbs < 2 ^ b) (hb : d.natAbs < 2 ^ b) : Bd b (Rat.divInt n d) :=
  ⟨Nat.lt_of_le_of_lt (num_le n d hd) hn, Nat.lt_of_le_of_lt (den_le n d hd) hb⟩
theorem bn_mul {i j : Int} {a b : Nat} (ha : i.natAbs < 2 ^ a) (hb : j.natAbs < 2 ^ b) : (i * j).natAbs < 2 ^ (a + b) := by
  rw [Int.natAbs_mul]
  exact lt_pow_mul ha hb
theorem bn_add {i j : Int} {a : Nat} (ha : i.natAbs < 2 ^ a) (hb : j.natAbs < 2 ^ a) : (i + j).natAbs < 2 ^ (a + 1) :=
  Nat.lt_of_le_of_lt (abs_add_le i j) (lt_pow_add ha hb)
theorem bn_sub {i j : Int} {a : Nat} (ha : i.natAbs < 2 ^ a) (hb : j.natAbs < 2 ^ a) : (i - j).natAbs < 2 ^ (a + 1) :=
  Nat.lt_of_le_of_lt (abs_sub_le i j) (lt_pow_add ha hb)
theorem bd_den {q : Rat} {b : Nat} (x : Bd b q) : (q.den : Int).natAbs < 2 ^ b := by
  have := x.2
  simpa using this
/-! Euclid's steps end -/
def euc : Nat → Nat → Nat → Nat × Nat
  | 0, a, b => (a, b)
  | n + 1, a, b => euc n b (a % b)
theorem mod_half {a b : Nat} (hb : 0 < b) (h : b ≤ a) : 2 * (a % b) < a := by
  have h1 : a % b < b := Nat.mod_lt _ hb
  have h2 := Nat.div_add_mod a b
  have h3 : 1 ≤ a / b := Nat.div_pos h hb
  have h4 : b * 1 ≤ b * (a / b) := Nat.mul_le_mul_left b h3
  omega
/-- one step halves the product once b is at most a -/
theorem step_half {a b n : Nat} (hb : 0 < b) (h : b ≤ a) (hp : a * b < 2 ^ (n + 1)) : b * (a % b) < 2 ^ n := by
  have h1 := mod_half hb h
  have h2 : b * (2 * (a % b)) ≤ b * a := Nat.mul_le_mul_left b (Nat.le_of_lt h1)
  rw [Nat.pow_succ] at hp
  have h3 : b * (2 * (a % b)) = 2 * (b * (a % b)) := Nat.mul_left_comm _ _ _
  have h4 : b * a = a * b := Nat.mul_comm _ _
  omega
/-- where one is with n steps left: small enough to end -/
def EucEnds (n a b : Nat) : Prop := b = 0 ∨ (b ≤ a ∧ 1 ≤ n ∧ a * b < 2 ^ (n - 1)) ∨ (2 ≤ n ∧ a * b < 2 ^ (n - 2))
theorem EucEnds.step {n a b : Nat} (hb : b ≠ 0) (h : EucEnds (n + 1) a b) : EucEnds n b (a % b) := by
  have hb0 : 0 < b := Nat.pos_of_ne_zero hb
  have hlt : a % b < b := Nat.mod_lt _ hb0
  rcases h with h | ⟨h1, h2, h3⟩ | ⟨h2, h3⟩
  · exact absurd h hb
  · cases n with
    | zero =>
      have : a * b < 1 := h3
      have h5 : 0 < a * b := Nat.mul_pos (Nat.lt_of_lt_of_le hb0 h1) hb0
      omega
    | succ n =>
      refine .inr (.inl ⟨Nat.le_of_lt hlt, by omega, ?_⟩)
      exact step_half hb0 h1 h3
  · have h6 : b * (a % b) ≤ a * b := by
      rw [Nat.mul_comm]
      exact Nat.mul_le_mul_right b (Nat.mod_le a b)
    refine .inr (.inl ⟨Nat.le_of_lt hlt, by omega, ?_⟩)
    exact Nat.lt_of_le_of_lt h6 (by simpa using h3)
theorem EucEnds.zero {a b : Nat} (h : EucEnds 0 a b) : b = 0 := by
  rcases h with h | ⟨_, h, _⟩ | ⟨h, _⟩ <;> omega
theorem gcd_step {a b g : Nat} (h : Nat.gcd a b = g) : Nat.gcd b (a % b) = g := by
  rw [← h, Nat.gcd_comm a b, Nat.gcd_rec b a, Nat.gcd_comm]
theorem gcd_end {a g : Nat} (h : Nat.gcd a 0 = g) : a = g := by rw [← h, Nat.gcd_zero_right]
end Jf
set_option Elab.async false
set_option linter.all false
namespace Jf
theorem cmp_64 (q r : Rat) : (cmp q r).natAbs < 2 ^ 64 := by
  have : (cmp q r).natAbs ≤ 1 := by unfold cmp; split <;> (try split) <;> decide
  exact Nat.lt_of_le_of_lt this (by decide)
theorem cmp_anti (q r : Rat) : cmp q r = 0 - cmp r q := by unfold cmp; grind
theorem cmp_add (q r s : Rat) : cmp (q + s) (r + s) = cmp q r := by unfold cmp; grind
theorem cmp_sub (q r : Rat) : cmp (q - r) 0 = cmp q r := by unfold cmp; grind
theorem cmp_zero (q r : Rat) : cmp q r = 0 ↔ q = r := by unfold cmp; grind
theorem cmp_trans {q r s : Rat} (h1 : 0 ≤ cmp q r) (h2 : 0 ≤ cmp r s) : ¬ cmp q s < 0 := by unfold cmp at *; grind
theorem cmp_mul (q r s : Rat) : cmp (q * s) (r * s) = cmp q r * cmp s 0 := by
  unfold cmp
  by_cases h : q = r
  · subst h; simp
  · by_cases h0 : s = 0
    · subst h0; simp
    · have e1 : (q - r) * s ≠ 0 := by
        intro e
        rcases Rat.mul_eq_zero.mp e with e | e <;> grind
      have ne : ¬ q * s = r * s := by grind
      rw [if_neg ne, if_neg h, if_neg h0]
      by_cases hs : 0 < s
      · by_cases hq : r < q
        · have := Rat.mul_pos (show 0 < q - r by grind) hs
          grind
        · have := Rat.mul_pos (show 0 < r - q by grind) hs
          grind
      · by_cases hq : r < q
        · have := Rat.mul_pos (show 0 < q - r by grind) (show 0 < -s by grind)
          grind
        · have := Rat.mul_pos (show 0 < r - q by grind) (show 0 < -s by grind)
          grind
theorem six (q : Rat) : Rat.divInt (q.num * 6) (q.den * 6) = q := by
  rw [← Rat.divInt_mul_divInt, Rat.num_divInt_den, Rat.divInt_self' (by decide), Rat.mul_one]
theorem negs (q : Rat) : Rat.divInt (0 - q.num) (0 - q.den) = q := by
  rw [show 0 - q.num = q.num * (-1) by omega, show (0 : Int) - q.den = q.den * (-1) by omega, ← Rat.divInt_mul_divInt, Rat.num_divInt_den, Rat.divInt_self' (by decide), Rat.mul_one]
theorem r_assoc (a b c : Rat) : a + b + c = a + (b + c) := by grind
theorem r_massoc (a b c : Rat) : a * b * c = a * (b * c) := by grind
theorem r_dist (a b c : Rat) : a * (b + c) = a * b + a * c := by grind
theorem r_addsub (a b : Rat) : a + b - b = a := by grind
theorem r_subadd (a b : Rat) : a - b + b = a := by grind
theorem r_divmul (a b : Rat) (h : b ≠ 0) : a / b * b = a := by grind
theorem r_muldiv (a b : Rat) (h : b ≠ 0) : a * b / b = a := by grind
end Jf
set_option Elab.async false
set_option linter.all false
set_option maxRecDepth 100000
set_option maxHeartbeats 4000000
namespace Jf
open PySem PySem.Spec PyProof.Rows L2 Evl
/-- a def of the text behind the top -/
structure FT (K : PySem.W.Frag) (mg : Str → Option Value) (x : Str) (st : Stmt) (ps : List Str) where
  a : Addr
  fd : FuncData
  F : Fun K x x st a fd
  b : Binds K fd ps []
  g : mg x = some (.ref a)
/-- // by a divisor that is not 0, below 2 ^ 9000 in size -/
def CDivZ (_ j : Int) : Prop := j ≠ 0 ∧ j.natAbs.log2 < 9000
theorem op_fdivZ {X : Cx} : OpR X (binaryOp .FloorDiv) (rI CDivZ fun i j => .int (i.fdiv j)) := opI fun i j _ _ _ _ _ hc q =>
  floordiv_int hc.1 q (.inl (PyProof.noPylong_of_log2 hc.2))
theorem log_lt {j : Nat} {b c : Nat} (h : j < 2 ^ b) (hc : b ≤ c) (h0 : 0 < c) : j.log2 < c :=
  Nat.lt_of_lt_of_le (PySem.Flt.log2_lt_of h0 (lt_pow_mono hc h)) (Nat.le_refl _)
theorem mulW {i j : Int} {a b : Nat} (ha : i.natAbs < 2 ^ a) (hb : j.natAbs < 2 ^ b) (h : a + b ≤ 900000) : CMulW i j :=
  wide_mul (lt_pow_mono (Nat.le_succ a) ha) (lt_pow_mono (Nat.le_succ b) hb) (Nat.succ_pos _) (Nat.succ_pos _) (by omega)

/-! ### what evaluates to a value of a kind -/
def EvP (te : TE) (σ : L2.St) (H : Hp) (P : V → Hp → Prop) : Prop := ∀ H1, Ex H H1 → ∀ Q : VK, (∀ v H2, Ex H1 H2 → P v H2 → Q v H2) → te σ H1 Q
/-- a fraction of at most b bits stands at v -/
def Fr (K : PySem.W.Frag) (b : Nat) (q : Rat) (v : V) (H : Hp) : Prop := ∃ p, v = .ref p ∧ SqT K H p [.int q.num, .int (q.den : Int)] ∧ Bd b q
section
variable {K : PySem.W.Frag} {σ : L2.St} {H H' : Hp} {te ta tb : TE} {P : V → Hp → Prop} {v : V} {b c n : Nat} {q r : Rat}
theorem Fr.ex (e : Ex H H') (h : Fr K b q v H) : Fr K b q v H' := by
  obtain ⟨p, rfl, h, x⟩ := h
  exact ⟨p, rfl, ex_t e h, x⟩
theorem Fr.mono (e : b ≤ c) (h : Fr K b q v H) : Fr K c q v H := by
  obtain ⟨p, rfl, h, x⟩ := h
  exact ⟨p, rfl, h, x.mono e⟩
theorem Fr.bd (h : Fr K b q v H) : Bd b q := h.choose_spec.2.2
theorem EvP.mono (e : Ex H H') (h : EvP te σ H P) : EvP te σ H' P := fun H1 a Q q => h H1 (e.trans a) Q q
theorem ep_var {i : Nat} (h : σ[i]? = some (some v)) (hf : Fr K b q v H) : EvP (tVar i) σ H (Fr K b q) := fun H1 e _ k => ⟨v, h, k v H1 (Ex.refl H1) (hf.ex e)⟩
theorem ep_mono (h : EvP te σ H (Fr K b q)) (e : b ≤ c) : EvP te σ H (Fr K c q) := fun H1 a Q k => h H1 a Q fun v H2 e2 f => k v H2 e2 (f.mono e)
theorem ep_is (h : EvP te σ H (Fr K b q)) (e : q = r) : EvP te σ H (Fr K b r) := e ▸ h
theorem ev_0 (h : EvP te σ H (Fr K b q)) : Ev (tOp (rIxT K) te (tC (.int 0))) σ H (.int q.num) := fun H1 a Q k => h H1 a _ fun v H2 e2 f => by
  obtain ⟨p, rfl, f, _⟩ := f
  exact ⟨p, _, 0, .int q.num, rfl, rfl, f, rfl, k H2 e2⟩
theorem ev_1 (h : EvP te σ H (Fr K b q)) : Ev (tOp (rIxT K) te (tC (.int 1))) σ H (.int (q.den : Int)) := fun H1 a Q k => h H1 a _ fun v H2 e2 f => by
  obtain ⟨p, rfl, f, _⟩ := f
  exact ⟨p, _, 1, .int (q.den : Int), rfl, rfl, f, rfl, k H2 e2⟩
/-- a new pair of ints that are a fraction's -/
theorem ep_tup {x y : Int} (ha : Ev ta σ H (.int x)) (hb : Ev tb σ H (.int y)) (e1 : x = q.num) (e2 : y = (q.den : Int)) (bd : Bd b q) : EvP (tTup (tCons ta (tCons tb tNil))) σ H (Fr K b q) := fun H1 a Q k =>
  ha H1 a _ fun H2 a2 => hb H2 (a.trans a2) _ fun H3 a3 => ⟨by show 2 ≤ sizeLine; decide, fun p hp => k _ _ ((a2.trans a3).trans (Ex.new hp)) ⟨p, rfl, by subst e1 e2; exact SqT.of upd_same, bd⟩⟩
theorem ev_mulW {x y : Int} (ha : Ev ta σ H (.int x)) (hb : Ev tb σ H (.int y)) (h : CMulW x y) : Ev (tOp (rI CMulW fun i j => .int (i * j)) ta tb) σ H (.int (x * y)) := ev_op ha hb (rv_I h)
theorem ev_add {x y : Int} (ha : Ev ta σ H (.int x)) (hb : Ev tb σ H (.int y)) : Ev (tOp (rI0 fun i j => .int (i + j)) ta tb) σ H (.int (x + y)) := ev_op ha hb rv_I0
theorem ev_sub {x y : Int} (ha : Ev ta σ H (.int x)) (hb : Ev tb σ H (.int y)) : Ev (tOp (rI0 fun i j => .int (i - j)) ta tb) σ H (.int (x - y)) := ev_op ha hb rv_I0
theorem ev_fdivZ {x y : Int} (ha : Ev ta σ H (.int x)) (hb : Ev tb σ H (.int y)) (h : CDivZ x y) : Ev (tOp (rI CDivZ fun i j => .int (i.fdiv j)) ta tb) σ H (.int (x.fdiv y)) := ev_op ha hb (rv_I h)
theorem ev_neg {x : Int} (ha : Ev ta σ H (.int x)) : Ev (tUn (rU fun i => .int (-i)) ta) σ H (.int (-x)) := ev_un ha ru_neg
theorem s_retP {D : Ends} (h : EvP te σ H P) (k : ∀ v H1, Ex H H1 → P v H1 → D.rt v H1) : tRet te D σ H := h H (Ex.refl H) _ k
theorem s_asgP {D : Ends} {i : Nat} (h : EvP te σ H P) (k : ∀ v H1, Ex H H1 → P v H1 → D.nx (σ.set i (some v)) H1) : tAsg te (gName i) D σ H := h H (Ex.refl H) _ k
theorem s_dropP {D : Ends} (h : EvP te σ H P) (k : ∀ v H1, Ex H H1 → P v H1 → D.nx σ H1) : tDrop te D σ H := h H (Ex.refl H) _ k

/-! ### deep equality of two fractions -/
theorem Fr.dp (h : Fr K b q v H) : Dp K H v (.tuple [.int q.num, .int (q.den : Int)]) := by
  obtain ⟨p, rfl, h, _⟩ := h
  exact .tup h (.cons (.int _) (.cons (.int _) .nil))
theorem eqv_fr (q r : Rat) : PyData.eqv (.tuple [.int q.num, .int (q.den : Int)]) (.tuple [.int r.num, .int (r.den : Int)]) = decide (q = r) := by
  simp only [PyData.eqv, PyData.eqvAll, Bool.and_true]
  have e : q = r ↔ q.num = r.num ∧ (q.den : Int) = (r.den : Int) := by
    constructor
    · rintro rfl
      exact ⟨rfl, rfl⟩
    · rintro ⟨h1, h2⟩
      exact Rat.ext h1 (by omega)
  rw [Bool.eq_iff_iff]
  simp [e]
theorem ev_neD (ha : EvP ta σ H (Fr K b q)) (hb : EvP tb σ H (Fr K c r)) : Ev (tOp (rNeD K) ta tb) σ H (.bl (!decide (q = r))) := fun H1 a Q k =>
  ha H1 a _ fun x H2 a2 f => hb H2 (a.trans a2) _ fun y H3 a3 g => ⟨_, _, (f.ex a3).dp, g.dp, rfl, rfl, by
    rw [eqv_fr]
    exact k H3 (a2.trans a3)⟩
theorem ev_eqD (ha : EvP ta σ H (Fr K b q)) (hb : EvP tb σ H (Fr K c r)) : Ev (tOp (rEqD K) ta tb) σ H (.bl (decide (q = r))) := fun H1 a Q k =>
  ha H1 a _ fun x H2 a2 f => hb H2 (a.trans a2) _ fun y H3 a3 g => ⟨_, _, (f.ex a3).dp, g.dp, rfl, rfl, by
    rw [eqv_fr]
    exact k H3 (a2.trans a3)⟩

/-! ### a def of two fractions -/
/-- op q r, of b + c + 1 bits at most -/
def sp2 (K : PySem.W.Frag) (ok : Rat → Prop) (f : Rat → Rat → Rat) : Sp := fun vs H Q _ => ∃ (u v : V) (b c : Nat) (q r : Rat), vs = [u, v] ∧ Fr K b q u H ∧ Fr K c r v H ∧ b + c + 1 ≤ 8000 ∧ ok r ∧
  ∀ z H', Ex H H' → Fr K (b + c + 1) (f q r) z H' → Q z H'
theorem ep_2 {ok : Rat → Prop} {f : Rat → Rat → Rat} {E : XK} (ha : EvP ta σ H (Fr K b q)) (hb : EvP tb σ H (Fr K c r)) (hk : ok r) (hl : b + c + 1 ≤ 8000) (hn : b + c + 1 = n) : EvP (tCall (sp2 K ok f) [] E (tCons ta (tCons tb tNil))) σ H (Fr K n (f q r)) := fun H1 a Q k =>
  ha H1 a _ fun x H2 a2 g => hb H2 (a.trans a2) _ fun y H3 a3 h => ⟨x, y, b, c, q, r, rfl, g.ex a3, h, hl, hk, fun z H' e w => k z H' ((a2.trans a3).trans e) (by subst hn; exact w)⟩
/-- compare -/
def spC (K : PySem.W.Frag) : Sp := fun vs H Q _ => ∃ (u v : V) (b c : Nat) (q r : Rat), vs = [u, v] ∧ Fr K b q u H ∧ Fr K c r v H ∧ b + c + 1 ≤ 8000 ∧ ∀ H', Ex H H' → Q (.int (cmp q r)) H'
theorem ev_C {E : XK} (ha : EvP ta σ H (Fr K b q)) (hb : EvP tb σ H (Fr K c r)) (hl : b + c + 1 ≤ 8000) : Ev (tCall (spC K) [] E (tCons ta (tCons tb tNil))) σ H (.int (cmp q r)) := fun H1 a Q k =>
  ha H1 a _ fun x H2 a2 g => hb H2 (a.trans a2) _ fun y H3 a3 h => ⟨x, y, b, c, q, r, rfl, g.ex a3, h, hl, fun H' e => k H' ((a2.trans a3).trans e)⟩
/-- is_fraction of a fraction; require_fraction of one -/
def spIs (K : PySem.W.Frag) (x : V) : Sp := fun vs H Q _ => ∃ (u : V) (b : Nat) (q : Rat), vs = [u] ∧ Fr K b q u H ∧ ∀ H', Ex H H' → Q x H'
theorem ev_Is {E : XK} {x : V} (ha : EvP ta σ H (Fr K b q)) : Ev (tCall (spIs K x) [] E (tCons ta tNil)) σ H x := fun H1 a Q k =>
  ha H1 a _ fun u H2 a2 g => ⟨u, b, q, rfl, g, fun H' e => k H' (a2.trans e)⟩
/-- lowest, fraction of two ints -/
def spLow (K : PySem.W.Frag) : Sp := fun vs H Q _ => ∃ (n d : Int) (b : Nat), vs = [.int n, .int d] ∧ d ≠ 0 ∧ n.natAbs < 2 ^ b ∧ d.natAbs < 2 ^ b ∧ b ≤ 8000 ∧ ∀ z H', Ex H H' → Fr K b (Rat.divInt n d) z H' → Q z H'
theorem ep_Low {E : XK} {x y : Int} (ha : Ev ta σ H (.int x)) (hb : Ev tb σ H (.int y)) (hd : y ≠ 0) (hx : x.natAbs < 2 ^ b) (hy : y.natAbs < 2 ^ b) (hl : b ≤ 8000) (hq : Rat.divInt x y = q) : EvP (tCall (spLow K) [] E (tCons ta (tCons tb tNil))) σ H (Fr K b q) := fun H1 a Q k =>
  ha H1 a _ fun H2 a2 => hb H2 (a.trans a2) _ fun H3 a3 => ⟨x, y, b, rfl, hd, hx, hy, hl, fun z H' e w => k z H' ((a2.trans a3).trans e) (by subst hq; exact w)⟩
/-- of any int whether it is one; require_whole -/
def spWhole (x : V) : Sp := fun vs H Q _ => ∃ n : Int, vs = [.int n] ∧ ∀ H', Ex H H' → Q x H'
theorem ev_Whole {E : XK} {x : V} {n : Int} (ha : Ev ta σ H (.int n)) : Ev (tCall (spWhole x) [] E (tCons ta tNil)) σ H x := fun H1 a Q k =>
  ha H1 a _ fun H2 a2 => ⟨n, rfl, fun H' e => k H' (a2.trans e)⟩
end
end Jf
set_option Elab.async false
set_option linter.all false
set_option maxRecDepth 100000
set_option maxHeartbeats 4000000
namespace Jf
open PySem PySem.Spec PyProof.Rows L2 Evl
/-! ### defs that show data: no list or tuple is being shown when they are called -/
structure FnG (P : Program) (w : World) (K : PySem.W.Frag) (mg : Str → Option Value) (base : Heap) (k : Nat) (f : Addr) (fd : FuncData) (ps : List Str) (sp : Sp) : Prop where
  size : ∀ vs H Q E, sp vs H Q E → vs.length = ps.length
  go : ∀ (A : Around) (outer : List Env) (s : Shared) (H : Hp) (args : Args) (us : List Value) (vs : List V) (Q : VK), A.guards = some [] → Room k A →
    Env0 P w K mg base A outer s H → BindsTo s fd args (ps.zip us) → Vals vs us → sp vs H Q E0 → codeAny (model P w) A (.call (.ref f) args) (CR CX0 outer P w H s Q E0) s
section
variable {X : Cx} {k : Nat} {f : Addr} {fd : FuncData} {ps : List Str} {sp : Sp} {x : Str} {p pos : Pos} {e : Expr} {es : List Expr} {t : TA}
/-- f(e, ..) of such a def -/
theorem pe_callG (F : FnG X.prog X.w X.K X.mg X.base k f fd ps sp) (gd : X.A.guards = some []) (hr : Room k X.A) (hg : Gl X x) (hm : X.mg x = some (.ref f)) (hk : PySem.W.keepIn X.K (.ref f) = true) (hb : Binds X.K fd ps [])
    (ha : PA X (e :: es) t) (hdb : (x == ("__debug__" : Str)) = false := by decide)
    (he : starEach (e :: es) X.env = (false, eval e X.env) :: starEach es X.env := by rfl)
    (hpl : (backTo pos (starEach es X.env)).any (·.1) = false := by rfl) : PE X (.Call (.Name x p) (e :: es) [] pos) (tCall sp [] E0 t) := by
  constructor
  intro pins s σ H Q I h
  apply wpAny_Call_Name_kw
  apply ld_glob I hg hm _ hdb
  apply PySem.W.callWith_K (h₀ := X.base) I.ok.mod.kin hk _ he hpl
  apply thn (ha.run pos pins s σ H _ I h)
  rintro us s1 ⟨vs, H1, I1, r, q⟩
  refine ⟨I1.kIn, ?_⟩
  have q' : sp vs H1 Q E0 := by
    have z := q
    rw [List.append_nil] at z
    exact z
  have hz : us.length = ps.length := r.length ▸ F.size _ _ _ _ q'
  have bt := hb s1 us I1.kIn (by simpa using hz)
  rw [List.append_nil] at bt
  apply wpAny_call
  apply codeAny_mono (F.go X.A X.stack s1 H1 ⟨us, []⟩ us vs Q gd hr I1.env0 bt r q')
  intro res s' hq
  match res, hq with
  | .ok (.ret u), hq => exact I1.after hq
  | .error _, hq => exact False.elim hq
end
section
variable {P : Program} {w : World} {K : PySem.W.Frag} {mg : Str → Option Value} {base : Heap}
/-- such a def, by its body -/
theorem okG {x qual : Str} {st : Stmt} {f : Addr} {fd : FuncData} {N ps : List Str} {k : Nat} {sp : Sp} (F : Fun K x qual st f fd) (S : FnScope N ps (defScope st)) (len : ∀ vs H Q E, sp vs H Q E → vs.length = ps.length)
    (body : ∀ (cdv : Value) (A : Around) (outer : List Env) (s : Shared) (H : Hp) (vs : List V) (Q : VK), A.guards = some [] → Room k (A.deeper (envOfC qual (defScope st) s.heap.objs.size f cdv)) → sp vs H Q E0 →
      ∃ t, PSs (cxOf CX0 P w K mg base N qual (defScope st) f cdv A outer s H E0).nox (defBody st) t ∧ t { nx := fun _ H' => Q .non H', rt := Q } (start N vs) H) :
    FnG P w K mg base (k + 1) f fd ps sp := by
  obtain ⟨oc, od, kV, doc, pm, an, cdv, ct, osl, rfl, lk, hcd⟩ := F.ex
  constructor
  · exact len
  intro A outer s H args us vs Q gd hr e0 hb r hsp
  have here : ∀ b o, base.get? b = some o → s.heap.get? b = some o := fun b o e => (e0.bs b o e).1
  have KX : K.In s.heap := e0.mod.kin.keeps here
  have par : ∀ y ∈ ps.zip us, (defScope st).names.lookup y.1 = some .local ∨ ((defScope st).names.lookup y.1 = some .cell ∧ ((cellsFrom (s.heap.objs.size + 1) (defScope st).names []).lookup y.1).isSome = true) := by
    rintro ⟨n, v⟩ hy
    have q := S.par n (List.of_mem_zip hy).1
    exact q.imp id fun z => ⟨z, PySem.W.cellsFrom_some _ _ _ (.inl z)⟩
  apply codeAny_call_function hr.depth (KX _ _ lk) rfl S.co S.gen rfl (PySem.W.codeRec_of KX hcd)
  apply hb
  apply wpAny_newFunctionEnv_cells S.kind par
  intro env he s1 ic
  subst he
  refine ⟨(e0.mod.nolimit.keeps here).keeps ic.toInCall.keep, codeAny_func ?_⟩
  obtain ⟨t, ht, hq⟩ := body cdv A outer s H vs Q gd (hr.deeper _) hsp
  have I0 := inv_start (CX := CX0) (E := E0) S hr.hd e0 (len _ _ _ _ hsp) r ic
  apply wpAny_mono (ht.nox.run [] s1 (start N vs) H _ I0 hq)
  · intro fl s' hs
    match fl, hs with
    | .ret u, ⟨v, σ', H', J, rv, q⟩ => exact ⟨v, H', J.os, J.bare, J.base, J.hok, rv, q⟩
    | .next, ⟨σ', H', J, q⟩ => exact ⟨V.non, H', J.os, J.bare, J.base, J.hok, rfl, q⟩
    | .brk, ⟨_, _, _, q⟩ => exact False.elim q
    | .cont, ⟨_, _, _, q⟩ => exact False.elim q
  · intro e s' hs
    exact hs
end
/-! ### isinstance of the error that a suite holds, its own dict read -/
/-- what its class must say -/
structure ErrC (K : PySem.W.Frag) (C : Addr) : Prop where
  cl : (PySem.W.clsIn K C).isSome = true
  ga : PySem.W.findIn K (.ref C) "__getattribute__" = some (some (.builtin "BaseException.__getattribute__"))
  gg : PySem.W.findIn K (.ref C) "__getattr__" = some none
  ex : PySem.W.subIn K (.ref C) (.type "BaseException") = some true
  hd : PySem.W.hasDictIn K C = true
  kc : PySem.W.findIn K (.ref C) "__class__" = some (some (.builtin "object.__class__"))
  sp : PySem.W.specialIn K (.builtin "object.__class__") "__get__" = some (some (.builtin "getset_descriptor.__get__"))
  tk : PySem.W.takesIn K (.builtin "object.__class__") = some true
  mo : PySem.W.mroIn K C (.type "object") = some true
def rIsD (K : PySem.W.Frag) (a : Addr) (cls : Value) (d : Option Addr) : List V → Hp → VK → Prop := fun xs H Q => ∃ (C B dd : Addr) (fs : List (Str × V)) (b : Bool), xs = [.ref a, .ref B] ∧ cls = .ref C ∧ ErrC K C ∧ d = some dd ∧ H dd = some (.xd fs) ∧ PySem.W.kitOne K (.ref C) (.ref B) = some b ∧ Q (.bl b) H
theorem call_isD {X : Cx} {a : Addr} {oe : Obj} {cls : Value} {d : Option Addr} {pn : List (Addr × Obj)} (hz : Zc cls d oe) (hf : ∃ vs, oe.data = .fields vs) : CallR (X.suite a ((a, oe) :: pn)) (.builtin "isinstance") (rIsD X.K a cls d) := by
  intro pins s σ H xs us Q I r h
  obtain ⟨C, B, dd, fs, b, rfl, rfl, T, rfl, ed, hk, q⟩ := h
  cases r with
  | cons rx rr =>
    cases rr with
    | cons rt rr =>
      cases rr
      cases rx
      cases rt
      have hget := (I.pin (a, oe) (List.mem_append_left _ List.mem_cons_self)).1
      obtain ⟨vs, hv⟩ := hf
      have hx : ObjOk X.prog X.w H s.heap dd (.xd fs) := I.hok dd _ ed
      obtain ⟨mA, hns, _⟩ := hx
      obtain ⟨od, ho, _⟩ := lookIn_ns hns
      have J : PySem.W.InstAt s.heap a oe C (some od) := by
        refine ⟨hget, hz.1, ?_, ?_⟩
        · unfold PySem.W.notCls
          rw [hv] <;> rfl
        · rw [hz.2]
          exact ho
      refine PySem.W.kia_one (PySem.W.kitx_exc T.cl T.ga T.gg T.ex T.kc T.sp T.tk T.mo) I.kIn J hk (fun z => nomatch z) ?_
      intro tk
      exact ⟨.bl b, H, I.kept (t' := tk) fun _ _ z => z, rfl, q⟩
/-! ### repr -/
/-- a list that is written out: it isn't at sys.modules -/
def tLstN (t : TA) : TE := fun σ H Q => t σ H fun xs H1 => xs.length ≤ sizeLine ∧ ∀ p, H1 p = none → p ≠ sysModules → Q (.ref p) (upd H1 p (.lst xs))
theorem pe_lstN {X : Cx} {es : List Expr} {t : TA} {pos : Pos} (h : PA X es t) : PE X (.List es pos) (tLstN t) := by
  constructor
  intro pins s σ H Q I want
  apply wpAny_List_spliced
  apply thn (h.run pos pins s σ H _ I want)
  rintro us s1 ⟨xs, H1, I1, vals, len, k⟩
  have free : H1 s1.heap.objs.size = none := I1.hok.fresh (Nat.le_refl _)
  refine ⟨vals.length ▸ len, .ref _, upd H1 _ (.lst xs), I1.laid (t' := s1.toks) (fun _ _ e => Heap.get?_push_of_some _ e) (Nat.le_refl _) ⟨len, us, 0, vals, Heap.get?_push_size _ rfl⟩, rfl, ?_⟩
  exact k _ free (Nat.ne_of_gt I1.big)
mutual
/-- data at a value: lists that are tracked (and are not what stands at p), tuples, the empty dict -/
inductive Dq (K : PySem.W.Frag) (p : Addr) (H : Hp) : V → PyData → Prop
  | non : Dq K p H .non .none
  | bl (b : Bool) : Dq K p H (.bl b) (.bool b)
  | int (i : Int) : Dq K p H (.int i) (.int i)
  | str (x : Str) : Dq K p H (.str x) (.str x)
  | lst {a : Addr} {xs : List V} {ds : List PyData} : a ≠ p → a ≠ sysModules → H a = some (.lst xs) → DqAll K p H xs ds → Dq K p H (.ref a) (.list ds)
  | tup {a : Addr} {xs : List V} {ds : List PyData} : SqT K H a xs → DqAll K p H xs ds → Dq K p H (.ref a) (.tuple ds)
  | emp {a : Addr} : H a = some (.dK []) → Dq K p H (.ref a) (.dict [])
inductive DqAll (K : PySem.W.Frag) (p : Addr) (H : Hp) : List V → List PyData → Prop
  | nil : DqAll K p H [] []
  | cons {v : V} {vs : List V} {d : PyData} {ds : List PyData} : Dq K p H v d → DqAll K p H vs ds → DqAll K p H (v :: vs) (d :: ds)
end
mutual
theorem Dq.ex {K : PySem.W.Frag} {p : Addr} {H H' : Hp} (e : Ex H H') : ∀ (d : PyData) (v : V), Dq K p H v d → Dq K p H' v d
  | _, _, .non => .non
  | _, _, .bl b => .bl b
  | _, _, .int i => .int i
  | _, _, .str x => .str x
  | _, _, .lst n m h hs => .lst n m (e _ _ h) (DqAll.ex e _ _ hs)
  | _, _, .tup h hs => .tup (ex_t e h) (DqAll.ex e _ _ hs)
  | _, _, .emp h => .emp (e _ _ h)
theorem DqAll.ex {K : PySem.W.Frag} {p : Addr} {H H' : Hp} (e : Ex H H') : ∀ (ds : List PyData) (vs : List V), DqAll K p H vs ds → DqAll K p H' vs ds
  | _, _, .nil => .nil
  | _, _, .cons h hs => .cons (Dq.ex e _ _ h) (DqAll.ex e _ _ hs)
end
section
variable {X : Cx} {pins : List (Addr × Obj)} {σ : L2.St} {H : Hp} {s : Shared}
mutual
theorem Dq.reads {p : Addr} (I : Inv X pins σ H s) : ∀ (d : PyData) (v : V) (u : Value), Dq X.K p H v d → RelV v u → ∃ as, Reads s.heap u d as ∧ sysModules ∉ as
  | _, _, u, .non, r => by
    cases (show u = Value.none from r)
    exact ⟨_, .none, by simp⟩
  | _, _, u, .bl b, r => by
    cases (show u = Value.bool b from r)
    exact ⟨_, .bool b, by simp⟩
  | _, _, u, .int i, r => by
    obtain ⟨t, q⟩ := (show ∃ t, u = Value.int i t from r)
    cases q
    exact ⟨_, .int i t, by simp⟩
  | _, _, u, .str x, r => by
    obtain ⟨t, q⟩ := (show ∃ t, u = Value.str x t from r)
    cases q
    exact ⟨_, .str x t, by simp⟩
  | _, _, u, .lst (a := a) _ m h hs, r => by
    cases (show u = Value.ref a from r)
    have hx : ObjOk X.prog X.w H s.heap a (.lst _) := I.hok a _ h
    obtain ⟨_, its, n, rv, e⟩ := hx
    obtain ⟨as, q, nm⟩ := DqAll.reads I _ _ _ hs rv
    exact ⟨_, .list e rfl rfl (by simpa using q), by
      simp only [List.mem_cons, not_or]
      exact ⟨m.symm, nm⟩⟩
  | _, _, u, .tup (a := a) h hs, r => by
    cases (show u = Value.ref a from r)
    obtain ⟨its, rv, ⟨o, e, c, n, dd⟩, _⟩ := I.tuple h
    obtain ⟨as, q, nm⟩ := DqAll.reads I _ _ _ hs rv
    exact ⟨_, .tuple e c dd (by simpa using q), nm⟩
  | _, _, u, .emp (a := a) h, r => by
    cases (show u = Value.ref a from r)
    obtain ⟨_, nsm, vs, kv, o, es, ep, e, x, dd, _, pr, _⟩ := dk_of I.hok h
    cases kv
    have e0 : es.toList = [] := by
      cases hh : es.toList with
      | nil => rfl
      | cons y ys =>
        rw [hh] at pr
        cases pr
    exact ⟨_, .dict (as := []) (bs := []) e x.1 dd (by rw [e0]; exact .nil) (by rw [e0]; exact .nil), by
      have := (beq_eq_false_iff_ne.mp nsm).symm
      simpa using this⟩
theorem DqAll.reads {p : Addr} (I : Inv X pins σ H s) : ∀ (ds : List PyData) (vs : List V) (us : List Value), DqAll X.K p H vs ds → Vals vs us → ∃ as, ReadsAll s.heap us ds as ∧ sysModules ∉ as
  | _, _, us, .nil, r => by
    cases r
    exact ⟨_, .nil, by simp⟩
  | _, _, us, .cons h hs, r => by
    cases r with
    | cons r1 r2 =>
      obtain ⟨as, q1, n1⟩ := Dq.reads I _ _ _ h r1
      obtain ⟨bs, q2, n2⟩ := DqAll.reads I _ _ _ hs r2
      exact ⟨_, .cons q1 q2, by
        simp only [List.mem_append, not_or]
        exact ⟨n1, n2⟩⟩
end
end
mutual
theorem Dp.nd {K : PySem.W.Frag} {H : Hp} : ∀ (d : PyData) (v : V), Dp K H v d → d.hasDict = false
  | _, _, .non => rfl
  | _, _, .bl _ => rfl
  | _, _, .int _ => rfl
  | _, _, .str _ => rfl
  | _, _, .lst _ hs => by simp only [PyData.hasDict]; exact DpAll.nd _ _ hs
  | _, _, .tup _ hs => by simp only [PyData.hasDict]; exact DpAll.nd _ _ hs
theorem DpAll.nd {K : PySem.W.Frag} {H : Hp} : ∀ (ds : List PyData) (vs : List V), DpAll K H vs ds → PyData.hasDictAll ds = false
  | _, _, .nil => rfl
  | _, _, .cons h hs => by simp only [PyData.hasDictAll, Dp.nd _ _ h, DpAll.nd _ _ hs, Bool.or_false]
end
def rRepr (K : PySem.W.Frag) : List V → Hp → VK → Prop := fun xs H Q => ∃ (x : V) (d : PyData) (p : Addr), xs = [x] ∧ (Dq K p H x d ∨ Dp K H x d) ∧ d.showable = true ∧ d.depth ≤ 60 ∧ d.shown.length ≤ sizeLine ∧ Q (.str d.shown) H
section
variable {X : Cx}
theorem call_repr (gd : X.A.guards = some []) (hu : X.A.units + 64 < cLine) : CallR X (.builtin "repr") (rRepr X.K) := by
  intro pins s σ H xs us Q I r h
  obtain ⟨x, d, p, rfl, hd, hs, hdep, hz, q⟩ := h
  cases r with
  | cons r1 r2 =>
    cases r2
    rename_i u
    obtain ⟨as, hr, nm⟩ : ∃ as, Reads s.heap u d as ∧ (d.hasDict = true → sysModules ∉ as) := by
      rcases hd with hd | hd
      · obtain ⟨as, hr, nm⟩ := Dq.reads I d x u hd r1
        exact ⟨as, hr, fun _ => nm⟩
      · obtain ⟨as, hr⟩ := Dp.reads I d x u hd r1
        exact ⟨as, hr, fun z => by rw [Dp.nd d x hd] at z; cases z⟩
    have fin : ∀ h' u' tk, (∀ b o, s.heap.get? b = some o → h'.get? b = some o) → EP X pins σ Q (.str d.shown u') { s with heap := h', toks := tk } := fun h' u' tk hk => ⟨.str d.shown, H, I.kept hk, ⟨_, rfl⟩, q⟩
    have f0 := fin s.heap s.toks (s.toks + 1) (fun _ _ z => z)
    cases hr with
    | none => exact PySem.P.repr_of_none (by simpa [PyData.shown] using f0)
    | bool b => exact PySem.P.repr_of_bool (by simpa [PyData.shown] using f0)
    | int i t => exact PySem.P.repr_of_int (by simpa [PyData.showable] using hs) (by simpa [PyData.shown] using f0)
    | str y t => exact PySem.P.repr_of_str (by simpa [PyData.shown] using f0) (by simpa [PyData.shown] using hz)
    | list h1 h2 h3 h4 => exact repr_of_reads' (.list h1 h2 h3 h4) hs nm gd (by omega) (fun _ _ z => z) (fun h' u' tk hk => fin h' u' tk hk) hz
    | tuple h1 h2 h3 h4 => exact repr_of_reads' (.tuple h1 h2 h3 h4) hs nm gd (by omega) (fun _ _ z => z) (fun h' u' tk hk => fin h' u' tk hk) hz
    | dict h1 h2 h3 h4 h5 => exact repr_of_reads' (.dict h1 h2 h3 h4 h5) hs nm gd (by omega) (fun _ _ z => z) (fun h' u' tk hk => fin h' u' tk hk) hz
end
end Jf
set_option Elab.async false
set_option linter.all false
set_option maxRecDepth 100000
set_option maxHeartbeats 4000000
namespace Jf
open PySem PySem.Spec PyProof.Rows L2 Evl
/-! ### how long shown data is -/
def lens : List Str → Nat
  | [] => 0
  | t :: ts => t.length + 2 + lens ts
theorem textFrom_le : ∀ (ts : List Str) (k : Nat) (acc : Str), (textFrom k acc ts).length ≤ acc.length + lens ts
  | [], _, acc => by simp [textFrom, lens]
  | t :: ts, k, acc => by
    have h := textFrom_le ts (k + 1) (acc ++ (if k > 0 then ", " else "" : String) ++ t)
    have e : ((if k > 0 then ", " else "" : String) : Str).length ≤ 2 := by
      by_cases z : k > 0
      · rw [if_pos z]; decide
      · rw [if_neg z]; decide
    simp only [textFrom, lens, Str.length_append] at h ⊢
    omega
theorem join_le : ∀ ts : List Str, (Str.join ", " ts).length ≤ lens ts
  | [] => by simp only [Str.join, lens]; decide
  | [x] => by simp only [Str.join, lens]; omega
  | x :: y :: r => by
    have h := join_le (y :: r)
    have e : ((", " : String) : Str).length = 2 := by decide
    simp only [Str.join, lens, Str.length_append] at h ⊢
    omega
mutual
def cost : PyData → Nat
  | .none => 4
  | .bool _ => 5
  | .int i => i.natAbs.log2 + 3
  | .str x => (reprText x).length
  | .list xs => costAll xs + 4
  | .tuple xs => costAll xs + 4
  | .dict [] => 2
  | .dict (_ :: _) => 100000000
def costAll : List PyData → Nat
  | [] => 0
  | x :: xs => cost x + 2 + costAll xs
end
mutual
theorem shown_le : ∀ d : PyData, cost d < 100000000 → d.shown.length ≤ cost d
  | .none, _ => by simp only [PyData.shown, cost]; decide
  | .bool b, _ => by cases b <;> (simp only [PyData.shown, cost]; decide)
  | .int i, _ => by
    simp only [PyData.shown, cost]
    have h := int_text_length_le (a := i) (k := i.natAbs.log2 + 1) (by omega) (by omega)
    show (Str.ofString (toString i)).length ≤ _
    rw [PySem.ofString_length]
    omega
  | .str x, _ => by simp only [PyData.shown, cost]; omega
  | .list xs, h => by
    simp only [cost] at h
    have := shownAll_le xs (by omega)
    have z := textFrom_le (PyData.shownAll xs) 0 (Str.ofString "[")
    have e : (Str.ofString "[").length = 1 := by decide
    have e2 : (Str.ofString "]").length = 1 := by decide
    simp only [PyData.shown, cost, listText, Str.length_append] at z ⊢
    omega
  | .tuple xs, h => by
    simp only [cost] at h
    have := shownAll_le xs (by omega)
    have z := join_le (PyData.shownAll xs)
    have e : (Str.ofString "(").length = 1 := by decide
    have e2 : ((if (PyData.shownAll xs).length == 1 then ",)" else ")" : String) : Str).length ≤ 2 := by
      by_cases q : ((PyData.shownAll xs).length == 1) = true
      · rw [if_pos q]; decide
      · rw [if_neg q]; decide
    simp only [PyData.shown, cost, tupleText, Str.length_append] at z ⊢
    omega
  | .dict [], _ => by simp only [PyData.shown, PyData.shownKv, cost]; decide
  | .dict (_ :: _), h => by simp only [cost] at h; omega
theorem shownAll_le : ∀ ds : List PyData, costAll ds < 100000000 → lens (PyData.shownAll ds) ≤ costAll ds
  | [], _ => by simp [PyData.shownAll, lens, costAll]
  | d :: ds, h => by
    simp only [costAll] at h
    have h1 := shown_le d (by omega)
    have h2 := shownAll_le ds (by omega)
    simp only [PyData.shownAll, lens, costAll]
    omega
end
/-- data that is shown without harm: its text, its depth -/
structure Nc (c e : Nat) (d : PyData) : Prop where
  sh : d.showable = true
  dp : d.depth ≤ e
  co : cost d ≤ c
theorem Nc.mono {c c' e e' : Nat} {d : PyData} (h : Nc c e d) (h1 : c ≤ c') (h2 : e ≤ e') : Nc c' e' d := ⟨h.sh, Nat.le_trans h.dp h2, Nat.le_trans h.co h1⟩
theorem Nc.len {c e : Nat} {d : PyData} (h : Nc c e d) (hc : c ≤ 1000000) : d.shown.length ≤ c := Nat.le_trans (shown_le d (by have := h.co; omega)) h.co
theorem nc_none : Nc 4 0 .none := ⟨rfl, Nat.le_refl _, Nat.le_refl _⟩
theorem nc_bool (b : Bool) : Nc 5 0 (.bool b) := ⟨rfl, Nat.le_refl _, Nat.le_refl _⟩
theorem nc_int {n : Int} {b : Nat} (h : n.natAbs < 2 ^ b) (h0 : 0 < b) (h1 : b ≤ 1900) : Nc (b + 2) 0 (.int n) := by
  have := PySem.Flt.log2_lt_of h0 h
  refine ⟨?_, Nat.le_refl _, ?_⟩
  · simp only [PyData.showable, decide_eq_true_eq]; omega
  · simp only [cost]; omega
theorem nc_str {x : Str} {c : Nat} (h : (reprText x).length ≤ c) : Nc c 0 (.str x) := ⟨rfl, Nat.le_refl _, h⟩
/-- several -/
structure NcA (c e : Nat) (ds : List PyData) : Prop where
  sh : PyData.showableAll ds = true
  dp : PyData.depthAll ds ≤ e
  co : costAll ds ≤ c
theorem nca_nil {e : Nat} : NcA 0 e [] := ⟨rfl, Nat.zero_le _, Nat.le_refl _⟩
theorem nca_cons {c c' e : Nat} {d : PyData} {ds : List PyData} (h : Nc c e d) (hs : NcA c' e ds) : NcA (c + 2 + c') e (d :: ds) := by
  refine ⟨?_, ?_, ?_⟩
  · simp only [PyData.showableAll, h.sh, hs.sh, Bool.and_self]
  · simp only [PyData.depthAll]; exact Nat.max_le.mpr ⟨h.dp, hs.dp⟩
  · simp only [costAll]; have := h.co; have := hs.co; omega
theorem nc_tup {c e : Nat} {ds : List PyData} (h : NcA c e ds) : Nc (c + 4) (e + 1) (.tuple ds) := by
  refine ⟨?_, ?_, ?_⟩
  · simp only [PyData.showable, h.sh]
  · simp only [PyData.depth]; have := h.dp; omega
  · simp only [cost]; have := h.co; omega
theorem nc_lst {c e : Nat} {ds : List PyData} (h : NcA c e ds) : Nc (c + 4) (e + 1) (.list ds) := by
  refine ⟨?_, ?_, ?_⟩
  · simp only [PyData.showable, h.sh]
  · simp only [PyData.depth]; have := h.dp; omega
  · simp only [cost]; have := h.co; omega
theorem nc_emp : Nc 2 1 (.dict []) := ⟨rfl, Nat.le_refl _, Nat.le_refl _⟩
theorem nc_pair {n m : Int} {b : Nat} (hn : n.natAbs < 2 ^ b) (hm : m.natAbs < 2 ^ b) (h0 : 0 < b) (h1 : b ≤ 1900) : Nc (2 * b + 12) 1 (.tuple [.int n, .int m]) :=
  (nc_tup (nca_cons (nc_int hn h0 h1) (nca_cons (nc_int hm h0 h1) nca_nil))).mono (by omega) (by omega)
/-! ### which data is what -/
def tyName : PyData → String
  | .none => "NoneType"
  | .bool _ => "bool"
  | .int _ => "int"
  | .str _ => "str"
  | .list _ => "list"
  | .tuple _ => "tuple"
  | .dict _ => "dict"
def isTup : PyData → Bool
  | .tuple _ => true
  | _ => false
def isInt : PyData → Bool
  | .int _ => true
  | .bool _ => true
  | _ => false
def isBo : PyData → Bool
  | .bool _ => true
  | _ => false
def isWh : PyData → Bool
  | .int _ => true
  | _ => false
theorem wh_eq (d : PyData) : (isInt d && !isBo d) = isWh d := by cases d <;> rfl
theorem kit_tup (d : PyData) : kitB (tyName d) "tuple" = some (isTup d) := by cases d <;> (simp only [tyName, isTup]; decide +kernel)
theorem kit_int (d : PyData) : kitB (tyName d) "int" = some (isInt d) := by cases d <;> (simp only [tyName, isInt]; decide +kernel)
theorem kit_bool (d : PyData) : kitB (tyName d) "bool" = some (isBo d) := by cases d <;> (simp only [tyName, isBo]; decide +kernel)
section
variable {K : PySem.W.Frag} {p : Addr} {H H' : Hp} {v : V} {d : PyData}
theorem Dq.ty (h : Dq K p H v d) : TyX K H v (.type (tyName d)) := by
  cases h with
  | non => exact .base .non
  | bl b => exact .base (.bl b)
  | int i => exact .base (.int i)
  | str x => exact .base (.str x)
  | lst _ _ h _ => exact .base (.lst h)
  | tup h _ =>
    rcases h with (h | ⟨o, h⟩) | ⟨o, _, _, h, c, _⟩
    · exact .base (.tup h)
    · exact .fTuple h
    · exact .kTuple h c
  | emp h => exact .base (.dK h)
theorem DqAll.len : ∀ {vs : List V} {ds : List PyData}, DqAll K p H vs ds → vs.length = ds.length
  | _, _, .nil => rfl
  | _, _, .cons _ h => by rw [List.length_cons, List.length_cons, h.len]
theorem DqAll.mem : ∀ {vs : List V} {ds : List PyData}, DqAll K p H vs ds → ∀ x ∈ vs, ∃ d ∈ ds, Dq K p H x d
  | _, _, .nil, x, hx => nomatch hx
  | _, _, .cons (d := d) h hs, x, hx => by
    rcases List.mem_cons.mp hx with rfl | hx
    · exact ⟨d, List.mem_cons_self, h⟩
    · obtain ⟨e, he, q⟩ := hs.mem x hx
      exact ⟨e, List.mem_cons_of_mem _ he, q⟩
theorem DqAll.append : ∀ {vs ws : List V} {ds es : List PyData}, DqAll K p H vs ds → DqAll K p H ws es → DqAll K p H (vs ++ ws) (ds ++ es)
  | _, _, _, _, .nil, h => h
  | _, _, _, _, .cons a b, h => .cons a (b.append h)
/-- a fraction's data -/
def frd (q : Rat) : PyData := .tuple [.int q.num, .int (q.den : Int)]
theorem Fr.dq {b : Nat} {q : Rat} (h : Fr K b q v H) : Dq K p H v (frd q) := by
  obtain ⟨a, rfl, h, _⟩ := h
  exact .tup h (.cons (.int _) (.cons (.int _) .nil))
theorem Fr.nc {b : Nat} {q : Rat} (h : Fr K b q v H) (h0 : 0 < b) (h1 : b ≤ 1900) : Nc (2 * b + 12) 1 (frd q) := nc_pair h.bd.1 (bd_den h.bd) h0 h1
/-- whether it is a fraction's -/
def frB : PyData → Bool
  | .tuple [.int n, .int m] => decide (0 < m) && decide (Nat.gcd n.natAbs m.natAbs = 1)
  | _ => false
def frQ : PyData → Rat
  | .tuple [.int n, .int m] => Rat.divInt n m
  | _ => 0
theorem divInt_low {n m : Int} (hm : 0 < m) (hg : Nat.gcd n.natAbs m.natAbs = 1) : (Rat.divInt n m).num = n ∧ ((Rat.divInt n m).den : Int) = m := by
  obtain ⟨h1, h2⟩ := low_eq n m (by omega) 1 (by rw [if_neg (by omega)])
  rw [hg] at h1 h2
  constructor
  · rw [← h1]; simp
  · rw [← h2]; simp
theorem frB_frd (q : Rat) : frB (frd q) = true := by
  have := den_pos q
  have h := red q
  simp only [frd, frB, h, decide_true, Bool.and_true, decide_eq_true_eq]
  exact this
theorem frQ_frd (q : Rat) : frQ (frd q) = q := by
  simp only [frd, frQ]
  exact Rat.num_divInt_den q
theorem frB_iff (h : frB d = true) : d = frd (frQ d) := by
  unfold frB at h
  split at h
  · rename_i n m
    rw [Bool.and_eq_true] at h
    obtain ⟨h1, h2⟩ := divInt_low (of_decide_eq_true h.1) (of_decide_eq_true h.2)
    simp only [frd, frQ, h1, h2]
  · cases h
theorem Dq.fr {b : Nat} (h : Dq K p H v d) (hb : frB d = true) (bd : Bd b (frQ d)) : Fr K b (frQ d) v H := by
  have e := frB_iff hb
  generalize frQ d = q at e bd
  subst e
  cases h with
  | tup h hs =>
    cases hs with
    | cons h1 h2 =>
      cases h2 with
      | cons h3 h4 =>
        cases h4
        cases h1
        cases h3
        exact ⟨_, rfl, h, bd⟩
end
end Jf
set_option Elab.async false
set_option linter.all false
set_option maxRecDepth 100000
set_option maxHeartbeats 4000000
namespace Jf
open PySem PySem.Spec PyProof.Rows L2 Evl
/-! ### the end of a law whose def shows data -/
/-- the script, known to its object; else nothing -/
def track (a : Addr) (vs : List Value) (ns : List Int) : Hp := fun b => if b = a then some (.frz { cls := .type "list", data := .seq vs.toArray } (.lst (ns.map V.int))) else none
theorem track_at {a : Addr} {vs : List Value} {ns : List Int} : track a vs ns a = some (.frz { cls := .type "list", data := .seq vs.toArray } (.lst (ns.map V.int))) := if_pos rfl
theorem track_ne {a b : Addr} {vs : List Value} {ns : List Int} (h : b ≠ a) : track a vs ns b = none := if_neg h
/-- what the law's promise is asked at -/
structure Asked (K : PySem.W.Frag) (h : Heap) (a : Addr) (vs : List Value) (ns : List Int) (H : Hp) : Prop where
  known : SqL K H a (ns.map V.int)
  only : ∀ b u, H b = some u → b = a ∧ ∃ o xs, u = .frz o (.lst xs)
  free : ∀ b o, K.lookup b = some o → H b = none
theorem seq_not_dict {h : Heap} {a : Addr} {vs : Array Value} {m : Str → Option Value} (ha : h.get? a = some { cls := .type "list", data := .seq vs }) : ¬ h.Ns a m := by
  rintro ⟨o, es, ep, e, d, _⟩
  rw [ha] at e
  cases e
  cases d
section
variable {P : Program} {w : World} {K : PySem.W.Frag} {mg mb : Str → Option Value} {k : Nat} {fa a : Addr} {fd : FuncData} {x : Str} {sp : Sp} {s₁ : Shared} {vs : List Value} {ns : List Int}
theorem go_law {H : Hp} (S : Asked K s₁.heap a vs ns H) (hok : HOk P w H s₁.heap) (KX : K.In s₁.heap) (hns : s₁.heap.Ns mainGlobals mg) (hb : s₁.heap.Ns builtinsNs mb) (hbb : ∀ x : Str, x ≠ "__name__" → mb x = bootBuiltins x) (hlim : s₁.heap.NoLimit) (hg : s₁.gens = #[])
    (ha : s₁.heap.get? a = some { cls := .type "list", data := .seq vs.toArray }) (hr : Room k callerA)
    (F : ∀ base : Heap, K.In base → base.Ns mainGlobals mg → FnG P w K mg base k fa fd [x] sp) (hbind : ∀ (s : Shared) (u : Value), BindsTo s fd ⟨[u], []⟩ [(x, u)])
    (hsp : sp [.ref a] H (fun v _ => v = .bl true) E0) :
    codeAny (model P w) callerA (.call (.ref fa) ⟨[.ref a], []⟩) (fun r s' => r = .ok (.ret (.bool true)) ∧ PySem.OldK s₁.heap s'.heap ∧ s'.os = s₁.os ∧ AllBare s'.gens) s₁ := by
  have ns_of : ∀ {b : Addr} {m : Str → Option Value}, s₁.heap.Ns b m → (hidT s₁.heap H).Ns b m := by
    intro b m hn
    have hn' := hn
    obtain ⟨o, es, ep, e, r⟩ := hn
    refine ⟨o, es, ep, hidT_get e ?_, r⟩
    cases q : H b with
    | none => rfl
    | some u =>
      obtain ⟨rfl, _⟩ := S.only b u q
      exact absurd hn' (seq_not_dict ha)
  have hKb : K.In (hidT s₁.heap H) := fun b o e => hidT_get (KX b o e) (S.free b o e)
  obtain ⟨mc, l1, l2⟩ := hlim
  have e0 : Env0 P w K mg (hidT s₁.heap H) callerA [] s₁ H := by
    constructor
    · rfl
    · exact ⟨hKb, ns_of hns, ⟨mb, ns_of hb, hbb⟩, ⟨mc, ns_of l1, l2⟩⟩
    · exact fun b o e => of_hidT e
    · exact Nat.le_of_eq (hidT_size _ _)
    · trivial
    · intro b hb
      exact absurd (show b ∈ ([] : List Addr) from hb) (by simp)
    · exact hok
    · exact .of_eq hg
  apply codeAny_mono ((F _ hKb (ns_of hns)).go callerA [] s₁ H ⟨[.ref a], []⟩ [.ref a] [.ref a] _ rfl hr e0 (hbind s₁ (.ref a)) (.cons rfl .nil) hsp)
  intro r s' h
  match r, h with
  | .error _, h => exact False.elim h
  | .ok (.ret u), ⟨v, H', os, bare, un, hok', r', q⟩ =>
    subst q
    obtain rfl : u = Value.bool true := r'
    refine ⟨rfl, PySem.OldK.of_keep ?_, os, bare⟩
    intro b o e
    cases q : H b with
    | none => exact un.keep b o e q (by intro z; exact absurd (show b ∈ ([] : List Addr) from z) (by simp)) (by simp)
    | some u =>
      obtain ⟨rfl, ob, xs, rfl⟩ := S.only b u q
      have q2 := un.frzs b ob _ q
      have e1 := (hok b _ q).1
      have e2 := (hok' b _ q2).1
      rw [e] at e1
      cases e1
      exact e2
theorem law_callG (KX : K.In s₁.heap) (hns : s₁.heap.Ns mainGlobals mg) (hb : s₁.heap.Ns builtinsNs mb) (hbb : ∀ x : Str, x ≠ "__name__" → mb x = bootBuiltins x) (hlim : s₁.heap.NoLimit) (hg : s₁.gens = #[])
    (ha : s₁.heap.get? a = some { cls := .type "list", data := .seq vs.toArray }) (hi : IntsAre vs ns) (hl : ns.length ≤ sizeLine) (hr : Room k callerA)
    (F : ∀ base : Heap, K.In base → base.Ns mainGlobals mg → FnG P w K mg base k fa fd [x] sp) (hbind : ∀ (s : Shared) (u : Value), BindsTo s fd ⟨[u], []⟩ [(x, u)])
    (hsp : ∀ H : Hp, SqL K H a (ns.map V.int) → sp [.ref a] H (fun v _ => v = .bl true) E0) :
    codeAny (model P w) callerA (.call (.ref fa) ⟨[.ref a], []⟩) (fun r s' => r = .ok (.ret (.bool true)) ∧ PySem.OldK s₁.heap s'.heap ∧ s'.os = s₁.os ∧ AllBare s'.gens) s₁ := by
  have rv := vals_ints hi
  cases hk : K.lookup a with
  | some o =>
    have e := KX a o hk
    rw [ha] at e
    cases e
    have known : SqL K (fun _ => none) a (ns.map V.int) := .inr ⟨_, vs.toArray, _, hk, rfl, rfl, rfl, by rw [List.size_toArray, hi.length]; exact hl, by simpa using rv⟩
    exact go_law (H := fun _ => none) ⟨known, (fun _ _ z => nomatch z), (fun _ _ _ => rfl)⟩ (fun _ _ z => nomatch z) KX hns hb hbb hlim hg ha hr F hbind (hsp _ known)
  | none =>
    have known : SqL K (track a vs ns) a (ns.map V.int) := .inl (.inr ⟨_, track_at⟩)
    refine go_law (H := track a vs ns) ⟨known, fun b u z => ?_, fun b o z => track_ne ?_⟩ (fun b u z => ?_) KX hns hb hbb hlim hg ha hr F hbind (hsp _ known)
    · by_cases h : b = a
      · subst h
        rw [track_at] at z
        cases z
        exact ⟨rfl, _, _, rfl⟩
      · rw [track_ne h] at z
        cases z
    · rintro rfl
      rw [hk] at z
      cases z
    · by_cases h : b = a
      · subst h
        rw [track_at] at z
        cases z
        exact ⟨ha, by rw [List.length_map]; exact hl, vs, _, rv, ha⟩
      · rw [track_ne h] at z
        cases z
end
theorem walk_ofG {l : PySem.W.OpenLaw} {n k : Nat} {q : Program} {loose : List Str} {XP : (Str → Option Value) → Heap → Prop} {YP : World → Heap → Prop} {d : DefRec} {K : Params → PySem.W.Frag} {sp : World → Sp} {x : Str}
    (hn : l.most = some n) (hn2 : n ≤ sizeLine) (hdf : d.params.defaults = []) (hr : Room k callerA) (hY : ∀ (w : World) (h : Heap), YP w h → (K w.params).In h)
    (F : ∀ (w : World) (mg : Str → Option Value) (fa : Addr) (h : Heap), (K w.params).In h → h.Ns mainGlobals mg → mg d.name = some (.ref fa) →
      ∃ fd : FuncData, (∀ (s : Shared) (u : Value), BindsTo s fd ⟨[u], []⟩ [(x, u)]) ∧ ∀ base : Heap, (K w.params).In base → base.Ns mainGlobals mg → FnG l.prog w (K w.params) mg base k fa fd [x] (sp w))
    (hsp : ∀ (w : World) (H : Hp) (a : Addr) (ns : List Int), ns.length ≤ n → SqL (K w.params) H a (ns.map V.int) → sp w [.ref a] H (fun v _ => v = .bl true) E0) :
    PySem.W.WalkO q loose XP YP l.row.toRowW d [] (fun f vs => PySem.call f vs) := by
  apply Att.attach_call hn hdf
  intro w s₀ s₁ mg mb fa o pm cd doc a vs ns G Y _ _ _ hmg hobj hints hlen hg
  obtain ⟨fd, hb, hF⟩ := F w mg fa _ (hY w _ Y) G.T.g hmg
  exact law_callG (hY w _ Y) G.T.g G.T.b G.T.builtins G.T.nolimit hg hobj hints (Nat.le_trans hlen hn2) hr hF hb fun H hS => hsp w H a ns hlen hS
end Jf
set_option Elab.async false
set_option linter.all false
set_option maxRecDepth 100000
set_option maxHeartbeats 4000000
namespace Jf
open PySem PySem.Spec PyProof.Rows L2 Evl
/-! ### the end of a law whose def shows data, some defs of which hold generators (cs: their code objects, with the tables) -/
def trackT (cs : List (Addr × Addr)) (H : Hp) : Hp := fun b => if b ∈ cs.map (fun p => p.2) then some (.tbl #[]) else H b
theorem trackT_in {cs : List (Addr × Addr)} {H : Hp} {b : Addr} (h : b ∈ cs.map (fun p => p.2)) : trackT cs H b = some (.tbl #[]) := if_pos h
theorem trackT_out {cs : List (Addr × Addr)} {H : Hp} {b : Addr} (h : b ∉ cs.map (fun p => p.2)) : trackT cs H b = H b := if_neg h
structure AskedT (K : PySem.W.Frag) (cs : List (Addr × Addr)) (a : Addr) (ns : List Int) (H : Hp) : Prop where
  known : SqL K H a (ns.map V.int)
  tbl : ∀ b ∈ cs.map (fun p => p.2), H b = some (.tbl #[])
  only : ∀ b u, H b = some u → b ∈ cs.map (fun p => p.2) ∨ (b = a ∧ ∃ o xs, u = .frz o (.lst xs))
  free : ∀ b o, K.lookup b = some o → H b = none
section
variable {P : Program} {w : World} {K : PySem.W.Frag} {mg mb : Str → Option Value} {k : Nat} {fa a : Addr} {fd : FuncData} {x : Str} {sp : Sp} {s₁ : Shared} {vs : List Value} {ns : List Int} {cs : List (Addr × Addr)}
theorem go_lawT {H : Hp} (S : AskedT K cs a ns H) (hok : HOk P w H s₁.heap) (KX : K.In s₁.heap) (hns : s₁.heap.Ns mainGlobals mg) (hb : s₁.heap.Ns builtinsNs mb) (hbb : ∀ x : Str, x ≠ "__name__" → mb x = bootBuiltins x) (hlim : s₁.heap.NoLimit) (hg : s₁.gens = #[])
    (hT : ∀ p ∈ cs, s₁.heap.get? p.2 = some { cls := .none, data := .fields #[] }) (hC : ∀ p ∈ cs, PySem.W.CodeHd s₁.heap p.1 p.2)
    (hbm : ∃ (bm : Addr) (ob : Obj), mg "__builtins__" = some (.ref bm) ∧ bm ≠ builtinsNs ∧ s₁.heap.get? bm = some ob ∧ ob.cls = .type "module" ∧ ob.dict = some builtinsNs ∧ ob.data = .plain)
    (ha : s₁.heap.get? a = some { cls := .type "list", data := .seq vs.toArray }) (hr : Room k callerA)
    (F : ∀ base : Heap, K.In base → base.Ns mainGlobals mg → (∀ p ∈ cs, GxR.TabB base mg p.1 p.2) → FnG P w K mg base k fa fd [x] sp) (hbind : ∀ (s : Shared) (u : Value), BindsTo s fd ⟨[u], []⟩ [(x, u)])
    (hsp : sp [.ref a] H (fun v _ => v = .bl true) E0) :
    codeAny (model P w) callerA (.call (.ref fa) ⟨[.ref a], []⟩) (fun r s' => r = .ok (.ret (.bool true)) ∧ PySem.OldK s₁.heap s'.heap ∧ s'.os = s₁.os ∧ AllBare s'.gens) s₁ := by
  have atT : ∀ b ∈ cs.map (fun p => p.2), s₁.heap.get? b = some { cls := .none, data := .fields #[] } := by
    intro b h
    obtain ⟨p, hp, rfl⟩ := List.mem_map.mp h
    exact hT p hp
  -- what has other data isn't tracked
  have other : ∀ {b : Addr} {o : Obj}, s₁.heap.get? b = some o → o.data ≠ .fields #[] → (∀ us n, o.data ≠ .seq us n) → H b = none := by
    intro b o e n1 n2
    cases q : H b with
    | none => rfl
    | some u =>
      rcases S.only b u q with z | ⟨rfl, _⟩
      · rw [atT b z] at e
        cases e
        exact absurd rfl n1
      · rw [ha] at e
        cases e
        exact absurd rfl (n2 _ _)
  have base_ns : ∀ {b : Addr} {m : Str → Option Value}, s₁.heap.Ns b m → (hidT s₁.heap H).Ns b m := by
    rintro b m ⟨o, es, ep, e, d, r⟩
    exact ⟨o, es, ep, hidT_get e (other e (by rw [d]; exact fun z => nomatch z) fun us n z => by rw [d] at z; cases z), d, r⟩
  have hKb : K.In (hidT s₁.heap H) := fun b o e => hidT_get (KX b o e) (S.free b o e)
  have TB : ∀ p ∈ cs, GxR.TabB (hidT s₁.heap H) mg p.1 p.2 := by
    intro p hp
    have tp := hT p hp
    obtain ⟨o, us, file, tf, flags, tg, inF, text, tt, c1, c2, c3, c4, c5⟩ := hC p hp
    obtain ⟨bm, ob, b1, b2, b3, b4, b5, b6⟩ := hbm
    constructor
    · refine ⟨o, us, file, tf, flags, tg, inF, text, tt, hidT_get c1 (other c1 (fun z => ?_) fun us n z => ?_), c2, c3, c4, c5⟩
      · rw [c3] at z
        cases z
        simp at c4
      · rw [c3] at z
        cases z
    · refine ⟨bm, ob, b1, b2, fun z => ?_, fun z => ?_, hidT_get b3 (other b3 (by rw [b6]; exact fun z => nomatch z) fun us n z => by rw [b6] at z; cases z), b4, b5, b6⟩
      · obtain ⟨o2, es, ep, e, d, _⟩ := hns
        rw [z, e] at b3
        cases b3
        rw [d] at b6
        cases b6
      · rw [z, tp] at b3
        cases b3
        cases b6
    · intro z
      obtain ⟨o2, es, ep, e, d, _⟩ := hns
      rw [z, tp] at e
      cases e
      cases d
  obtain ⟨mc, l1, l2⟩ := hlim
  have e0 : Env0 P w K mg (hidT s₁.heap H) callerA [] s₁ H := by
    constructor
    · rfl
    · exact ⟨hKb, base_ns hns, ⟨mb, base_ns hb, hbb⟩, ⟨mc, base_ns l1, l2⟩⟩
    · exact fun b o e => of_hidT e
    · exact Nat.le_of_eq (hidT_size _ _)
    · trivial
    · intro b hb
      exact absurd (show b ∈ ([] : List Addr) from hb) (by simp)
    · exact hok
    · exact .of_eq hg
  apply codeAny_mono ((F _ hKb (base_ns hns) TB).go callerA [] s₁ H ⟨[.ref a], []⟩ [.ref a] [.ref a] _ rfl hr e0 (hbind s₁ (.ref a)) (.cons rfl .nil) hsp)
  intro r s' h
  match r, h with
  | .error _, h => exact False.elim h
  | .ok (.ret u), ⟨v, H', os, bare, un, hok', r', q⟩ =>
    subst q
    obtain rfl : u = Value.bool true := r'
    have same : ∀ b o, b ∉ cs.map (fun p => p.2) → s₁.heap.get? b = some o → s'.heap.get? b = some o := by
      intro b o nb e
      cases q : H b with
      | none => exact un.keep b o e q (by intro z; exact absurd (show b ∈ ([] : List Addr) from z) (by simp)) (by simp)
      | some u =>
        rcases S.only b u q with z | ⟨rfl, ob, xs, rfl⟩
        · exact absurd z nb
        · have q2 := un.frzs b ob _ q
          have e1 := (hok b _ q).1
          have e2 := (hok' b _ q2).1
          rw [e] at e1
          cases e1
          exact e2
    have more : ∀ b ∈ cs.map (fun p => p.2), ∃ m : Array Value, s'.heap.get? b = some { cls := .none, data := .fields m } := by
      intro b h
      obtain ⟨m, z⟩ := un.tbls b #[] (S.tbl b h)
      exact ⟨_, hok' b _ z⟩
    refine ⟨rfl, ⟨fun b o e => ?_, fun b o e => ?_⟩, os, bare⟩
    · by_cases h : b ∈ cs.map (fun p => p.2)
      · obtain ⟨m, z⟩ := more b h
        obtain ⟨p, hp, rfl⟩ := List.mem_map.mp h
        rw [hT p hp] at e
        cases e
        exact .inr (.inl ⟨((hC p hp).tab (hT p hp)).isCodeTable, rfl, #[], m, rfl, by rw [Array.empty_append]; exact z⟩)
      · exact .inl (same b o h e)
    · by_cases h : b ∈ cs.map (fun p => p.2)
      · obtain ⟨m, z⟩ := more b h
        exact ⟨_, z⟩
      · exact ⟨o, same b o h e⟩
theorem law_callGT (KX : K.In s₁.heap) (hns : s₁.heap.Ns mainGlobals mg) (hb : s₁.heap.Ns builtinsNs mb) (hbb : ∀ x : Str, x ≠ "__name__" → mb x = bootBuiltins x) (hlim : s₁.heap.NoLimit) (hg : s₁.gens = #[])
    (hT : ∀ p ∈ cs, s₁.heap.get? p.2 = some { cls := .none, data := .fields #[] }) (nT : ∀ p ∈ cs, K.lookup p.2 = none) (hC : ∀ p ∈ cs, PySem.W.CodeHd s₁.heap p.1 p.2)
    (hbm : ∃ (bm : Addr) (ob : Obj), mg "__builtins__" = some (.ref bm) ∧ bm ≠ builtinsNs ∧ s₁.heap.get? bm = some ob ∧ ob.cls = .type "module" ∧ ob.dict = some builtinsNs ∧ ob.data = .plain)
    (ha : s₁.heap.get? a = some { cls := .type "list", data := .seq vs.toArray }) (hi : IntsAre vs ns) (hl : ns.length ≤ sizeLine) (hr : Room k callerA)
    (F : ∀ base : Heap, K.In base → base.Ns mainGlobals mg → (∀ p ∈ cs, GxR.TabB base mg p.1 p.2) → FnG P w K mg base k fa fd [x] sp) (hbind : ∀ (s : Shared) (u : Value), BindsTo s fd ⟨[u], []⟩ [(x, u)])
    (hsp : ∀ H : Hp, (∀ p ∈ cs, H p.2 = some (.tbl #[])) → SqL K H a (ns.map V.int) → sp [.ref a] H (fun v _ => v = .bl true) E0) :
    codeAny (model P w) callerA (.call (.ref fa) ⟨[.ref a], []⟩) (fun r s' => r = .ok (.ret (.bool true)) ∧ PySem.OldK s₁.heap s'.heap ∧ s'.os = s₁.os ∧ AllBare s'.gens) s₁ := by
  have rv := vals_ints hi
  have atT : ∀ b ∈ cs.map (fun p => p.2), s₁.heap.get? b = some { cls := .none, data := .fields #[] } := by
    intro b h
    obtain ⟨p, hp, rfl⟩ := List.mem_map.mp h
    exact hT p hp
  have nK : ∀ b ∈ cs.map (fun p => p.2), K.lookup b = none := by
    intro b h
    obtain ⟨p, hp, rfl⟩ := List.mem_map.mp h
    exact nT p hp
  have na : a ∉ cs.map (fun p => p.2) := fun z => by
    have q := atT a z
    rw [ha] at q
    cases q
  have inT : ∀ p ∈ cs, p.2 ∈ cs.map (fun p => p.2) := fun p hp => List.mem_map.mpr ⟨p, hp, rfl⟩
  cases hk : K.lookup a with
  | some o =>
    have e := KX a o hk
    rw [ha] at e
    cases e
    have known : SqL K (trackT cs fun _ => none) a (ns.map V.int) := .inr ⟨_, vs.toArray, _, hk, rfl, rfl, rfl, by rw [List.size_toArray, hi.length]; exact hl, by simpa using rv⟩
    refine go_lawT (H := trackT cs fun _ => none) ⟨known, fun b h => trackT_in h, fun b u z => ?_, fun b o z => ?_⟩ (fun b u z => ?_) KX hns hb hbb hlim hg hT hC hbm ha hr F hbind (hsp _ (fun p hp => trackT_in (inT p hp)) known)
    · by_cases h : b ∈ cs.map (fun p => p.2)
      · exact .inl h
      · rw [trackT_out h] at z
        cases z
    · exact trackT_out fun h => by rw [nK b h] at z; cases z
    · by_cases h : b ∈ cs.map (fun p => p.2)
      · rw [trackT_in h] at z
        cases z
        exact atT b h
      · rw [trackT_out h] at z
        cases z
  | none =>
    have at_a : trackT cs (track a vs ns) a = some (.frz { cls := .type "list", data := .seq vs.toArray } (.lst (ns.map V.int))) := (trackT_out na).trans track_at
    have known : SqL K (trackT cs (track a vs ns)) a (ns.map V.int) := .inl (.inr ⟨_, at_a⟩)
    refine go_lawT (H := trackT cs (track a vs ns)) ⟨known, fun b h => trackT_in h, fun b u z => ?_, fun b o z => ?_⟩ (fun b u z => ?_) KX hns hb hbb hlim hg hT hC hbm ha hr F hbind (hsp _ (fun p hp => trackT_in (inT p hp)) known)
    · by_cases h : b ∈ cs.map (fun p => p.2)
      · exact .inl h
      · rw [trackT_out h] at z
        by_cases h2 : b = a
        · subst h2
          rw [track_at] at z
          cases z
          exact .inr ⟨rfl, _, _, rfl⟩
        · rw [track_ne h2] at z
          cases z
    · refine (trackT_out fun h => ?_).trans (track_ne ?_)
      · rw [nK b h] at z
        cases z
      · rintro rfl
        rw [hk] at z
        cases z
    · by_cases h : b ∈ cs.map (fun p => p.2)
      · rw [trackT_in h] at z
        cases z
        exact atT b h
      · rw [trackT_out h] at z
        by_cases h2 : b = a
        · subst h2
          rw [track_at] at z
          cases z
          exact ⟨ha, by rw [List.length_map]; exact hl, vs, _, rv, ha⟩
        · rw [track_ne h2] at z
          cases z
end
/-- the table of code objects of the def y, as the top leaves it: empty -/
def TabE (K : PySem.W.Frag) (y : Str) (mg : Str → Option Value) (h : Heap) : Prop := ∀ (f c T : Addr) (o : Obj) (fd : FuncData) (e : Value) (dd : Option Addr) (us : Array Value) (sl : Array (Option Value)),
  mg y = some (.ref f) → K.lookup f = some o → o.data = .func fd → fd.code = .ref c → K.lookup c = some ⟨e, dd, .fields us, sl⟩ → us[11]? = some (.ref T) → h.get? T = some { cls := .none, data := .fields #[] }
theorem walk_ofGT {l : PySem.W.OpenLaw} {n k : Nat} {q : Program} {loose : List Str} {XP : (Str → Option Value) → Heap → Prop} {YP : World → Heap → Prop} {d : DefRec} {K : Params → PySem.W.Frag} {sp : World → Sp} {x y : Str}
    (hn : l.most = some n) (hn2 : n ≤ sizeLine) (hdf : d.params.defaults = []) (hr : Room k callerA) (hrec : ((recsOf q).any fun e => e.name == y) = true) (hY : ∀ (w : World) (h : Heap), YP w h → (K w.params).In h)
    (F : ∀ (w : World) (mg : Str → Option Value) (fa : Addr) (h : Heap), (K w.params).In h → h.Ns mainGlobals mg → mg d.name = some (.ref fa) → TabE (K w.params) y mg h →
      ∃ (fd : FuncData) (cs : List (Addr × Addr)), (∀ p ∈ cs, h.get? p.2 = some { cls := .none, data := .fields #[] }) ∧ (∀ p ∈ cs, (K w.params).lookup p.2 = none) ∧ (∀ p ∈ cs, PySem.W.CodeHd h p.1 p.2) ∧ (∀ (s : Shared) (u : Value), BindsTo s fd ⟨[u], []⟩ [(x, u)]) ∧
        (∀ (H : Hp) (a : Addr) (ns : List Int), ns.length ≤ n → (∀ p ∈ cs, H p.2 = some (.tbl #[])) → SqL (K w.params) H a (ns.map V.int) → sp w [.ref a] H (fun v _ => v = .bl true) E0) ∧
        ∀ base : Heap, (K w.params).In base → base.Ns mainGlobals mg → (∀ p ∈ cs, GxR.TabB base mg p.1 p.2) → FnG l.prog w (K w.params) mg base k fa fd [x] (sp w)) :
    PySem.W.WalkO q loose XP YP l.row.toRowW d [] (fun f vs => PySem.call f vs) := by
  apply Att.attach_call hn hdf
  intro w s₀ s₁ mg mb fa o pm cd doc a vs ns G Y _ _ _ hmg hobj hints hlen hg
  have KX := hY w _ Y
  have empty : TabE (K w.params) y mg s₁.heap := by
    intro f c T o1 fd1 e dd us sl k0 k1 k2 k3 k4 k5
    obtain ⟨dL, mem, nm⟩ := List.any_eq_true.mp hrec
    obtain ⟨a2, o2, fd2, c2, T2, h1, h2, h3, h4, _, ⟨oc, vc, t1, _, t3, t4⟩, hT⟩ := G.T.tab dL mem
    rw [beq_iff_eq.mp nm, k0] at h1
    cases h1
    rw [KX _ _ k1] at h2
    cases h2
    rw [k2] at h3
    cases h3
    rw [k3] at h4
    cases h4
    rw [KX _ _ k4] at t1
    cases t1
    cases t3
    rw [k5] at t4
    cases t4
    exact hT
  obtain ⟨fd, cs, hT, nT, hC, hb, hsp, hF⟩ := F w mg fa _ KX G.T.g hmg empty
  exact law_callGT KX G.T.g G.T.b G.T.builtins G.T.nolimit hg hT nT hC G.T.bmain hobj hints (Nat.le_trans hlen hn2) hr hF hb fun H hH hS => hsp H a ns hlen hH hS
theorem walk_ofGK {l : PySem.W.OpenLaw} {n k : Nat} {q : Program} {loose : List Str} {XP : (Str → Option Value) → Heap → Prop} {YP : World → Heap → Prop} {d : DefRec} {K : Params → PySem.W.Frag} {sp : PySem.W.Frag → Addr → Sp} {PA : Addr} {x y : Str}
    (hn : l.most = some n) (hn2 : n ≤ sizeLine) (hdf : d.params.defaults = []) (hr : Room k callerA) (hrec : ((recsOf q).any fun e => e.name == y) = true) (hY : ∀ (w : World) (h : Heap), YP w h → (K w.params).In h)
    (F : ∀ (w : World) (mg : Str → Option Value) (fa : Addr) (h : Heap), (K w.params).In h → h.Ns mainGlobals mg → mg d.name = some (.ref fa) → TabE (K w.params) y mg h →
      ∃ (fd : FuncData) (cs : List (Addr × Addr)), (∀ p ∈ cs, h.get? p.2 = some { cls := .none, data := .fields #[] }) ∧ (∀ p ∈ cs, (K w.params).lookup p.2 = none) ∧ (∀ p ∈ cs, PySem.W.CodeHd h p.1 p.2) ∧ (∀ (s : Shared) (u : Value), BindsTo s fd ⟨[u], []⟩ [(x, u)]) ∧
        (∀ (H : Hp) (a : Addr) (ns : List Int), ns.length ≤ n → (∀ p ∈ cs, H p.2 = some (.tbl #[])) → SqL (K w.params) H a (ns.map V.int) → sp (K w.params) PA [.ref a] H (fun v _ => v = .bl true) E0) ∧
        ∀ base : Heap, (K w.params).In base → base.Ns mainGlobals mg → (∀ p ∈ cs, GxR.TabB base mg p.1 p.2) → FnG l.prog w (K w.params) mg base k fa fd [x] (sp (K w.params) PA)) :
    PySem.W.WalkO q loose XP YP l.row.toRowW d [] (fun f vs => PySem.call f vs) :=
  walk_ofGT (sp := fun w => sp (K w.params) PA) hn hn2 hdf hr hrec hY F
theorem walk_ofGL {l : PySem.W.OpenLaw} {n k : Nat} {q : Program} {loose : List Str} {XP : (Str → Option Value) → Heap → Prop} {YP : World → Heap → Prop} {d : DefRec} {K : Params → PySem.W.Frag} {sp : PySem.W.Frag → List Addr → Sp} {PA : List Addr} {x : Str} {ys : List Str}
    (hn : l.most = some n) (hn2 : n ≤ sizeLine) (hdf : d.params.defaults = []) (hr : Room k callerA) (hrec : (ys.all fun y => (recsOf q).any fun e => e.name == y) = true) (hY : ∀ (w : World) (h : Heap), YP w h → (K w.params).In h)
    (F : ∀ (w : World) (mg : Str → Option Value) (fa : Addr) (h : Heap), (K w.params).In h → h.Ns mainGlobals mg → mg d.name = some (.ref fa) → (∀ y ∈ ys, TabE (K w.params) y mg h) →
      ∃ (fd : FuncData) (cs : List (Addr × Addr)), (∀ p ∈ cs, h.get? p.2 = some { cls := .none, data := .fields #[] }) ∧ (∀ p ∈ cs, (K w.params).lookup p.2 = none) ∧ (∀ p ∈ cs, PySem.W.CodeHd h p.1 p.2) ∧ (∀ (s : Shared) (u : Value), BindsTo s fd ⟨[u], []⟩ [(x, u)]) ∧
        (∀ (H : Hp) (a : Addr) (ns : List Int), ns.length ≤ n → (∀ p ∈ cs, H p.2 = some (.tbl #[])) → SqL (K w.params) H a (ns.map V.int) → sp (K w.params) PA [.ref a] H (fun v _ => v = .bl true) E0) ∧
        ∀ base : Heap, (K w.params).In base → base.Ns mainGlobals mg → (∀ p ∈ cs, GxR.TabB base mg p.1 p.2) → FnG l.prog w (K w.params) mg base k fa fd [x] (sp (K w.params) PA)) :
    PySem.W.WalkO q loose XP YP l.row.toRowW d [] (fun f vs => PySem.call f vs) := by
  apply Att.attach_call hn hdf
  intro w s₀ s₁ mg mb fa o pm cd doc a vs ns G Y _ _ _ hmg hobj hints hlen hg
  have KX := hY w _ Y
  have empty : ∀ y ∈ ys, TabE (K w.params) y mg s₁.heap := by
    intro y hy f c T o1 fd1 e dd us sl k0 k1 k2 k3 k4 k5
    obtain ⟨dL, mem, nm⟩ := List.any_eq_true.mp (List.all_eq_true.mp hrec y hy)
    obtain ⟨a2, o2, fd2, c2, T2, h1, h2, h3, h4, _, ⟨oc, vc, t1, _, t3, t4⟩, hT⟩ := G.T.tab dL mem
    rw [beq_iff_eq.mp nm, k0] at h1
    cases h1
    rw [KX _ _ k1] at h2
    cases h2
    rw [k2] at h3
    cases h3
    rw [k3] at h4
    cases h4
    rw [KX _ _ k4] at t1
    cases t1
    cases t3
    rw [k5] at t4
    cases t4
    exact hT
  obtain ⟨fd, cs, hT, nT, hC, hb, hsp, hF⟩ := F w mg fa _ KX G.T.g hmg empty
  exact law_callGT KX G.T.g G.T.b G.T.builtins G.T.nolimit hg hT nT hC G.T.bmain hobj hints (Nat.le_trans hlen hn2) hr hF hb fun H hH hS => hsp H a ns hlen hH hS
end Jf
set_option Elab.async false
set_option linter.all false
set_option maxRecDepth 100000
set_option maxHeartbeats 4000000
namespace Jf
open PySem PySem.Spec PyProof.Rows L2 Evl
/-! ### sum of a generator over a list of pairs of ints, with one captured int -/
/-- the generator's own scope: two names, one captured -/
structure GenT (scope : Scope) (xa xb xc : Str) : Prop where
  kind : scope.kind = .function
  co : scope.isCoroutine = false
  cell : ∀ y ∈ scope.names, y.2 ≠ .cell
  dot : scope.names.lookup (".0" : Str) = some NameKind.local
  la : scope.names.lookup xa = some .local
  lb : scope.names.lookup xb = some .local
  lc : scope.names.lookup xc = some .free
  ne : xa ≠ xb
  only : ∀ y ∈ scope.names, y.2 = .free → y.1 = xc
  clo : ∀ cells : List (Str × Addr), (cloFrom cells scope.names []).lookup xc = some ((cells.lookup xc).getD 0)
/-- the element: an int of the two and the captured one -/
def EltT (prog : Program) (w : World) (scope : Scope) (xa xb xc : Str) (elt : Expr) (ok : Int → Int → Int → Prop) (g : Int → Int → Int → Int) : Prop :=
  ∀ (cenv : Env) (B : Around) (E : Value → Shared → Prop) (a b d : Int) (ta tb td : Tok) (c : Addr) (s : Shared) (m : Str → Option Value), cenv.scope = scope → ok a b d → s.heap.Ns cenv.locals m → m xa = some (.int a ta) → m xb = some (.int b tb) →
    cenv.cells.lookup xc = some c → s.heap.IsCell c (some (.int d td)) → wpAny (model prog w) B (eval elt cenv) (fun y s1 => (∃ t, y = .int (g a b d) t) ∧ Keeps s s1) E s
abbrev Prs := List (Addr × Int × Int)
def valP (ps : Prs) (d : Int) (g : Int → Int → Int → Int) (j : Nat) : Int := match ps[j]? with
  | some p => g p.2.1 p.2.2 d
  | none => 0
theorem valP_some {ps : Prs} {d : Int} {g : Int → Int → Int → Int} {j : Nat} {p : Addr × Int × Int} (h : ps[j]? = some p) : valP ps d g j = g p.2.1 p.2.2 d := by
  unfold valP
  rw [h]
def sumP (ps : Prs) (d : Int) (g : Int → Int → Int → Int) : Int := (ps.map fun p => g p.2.1 p.2.2 d).sum
theorem preSum_sumP (ps : Prs) (d : Int) (g : Int → Int → Int → Int) : preSum (valP ps d g) ps.length = sumP ps d g := by
  have step : ∀ n, n ≤ ps.length → preSum (valP ps d g) n = sumP (ps.take n) d g := by
    intro n
    induction n with
    | zero => intro _; rfl
    | succ n ih =>
      intro h
      have hn : n < ps.length := h
      have e := List.getElem?_eq_getElem hn
      show preSum (valP ps d g) n + valP ps d g n = _
      rw [ih (Nat.le_of_lt hn), valP_some e, List.take_succ, e]
      unfold sumP
      simp only [Option.toList_some, List.map_append, List.sum_append, List.map_cons, List.map_nil, List.sum_cons, List.sum_nil, Int.add_zero]
  rw [step _ (Nat.le_refl _), List.take_length]
section
variable {X : Cx} {pins : List (Addr × Obj)} {σ : L2.St} {H : Hp} {s : Shared}
/-- the generator's code: found in the def's table, or put there -/
theorem gcode {env : Env} {scope : Scope} {gpos : Pos} {nm : Str} {c P : Addr} {tb : Array Value} {s2 : Shared} {prog : Program} {w : World} {A : Around} {E : Value → Shared → Prop} {Ψ : Value → Shared → Prop} (hcode : env.code = .ref c)
    (cd : PySem.W.CodeHd s2.heap c P) (hP : s2.heap.get? P = some { cls := .none, data := .fields tb }) (ht : TriplesOk tb.toList)
    (rest : ∀ (code : Value) (h3 : Heap) (n3 : Nat) (tb3 : Array Value), Heap.ExtBut P s2.heap h3 → s2.heap.objs.size ≤ h3.objs.size → h3.get? P = some { cls := .none, data := .fields tb3 } → (∃ more, tb3 = tb ++ more) → TriplesOk tb3.toList → Ψ code { s2 with heap := h3, toks := n3 }) :
    wpAny (model prog w) A (genexprCode env gpos nm scope) Ψ E s2 := by
  cases found : codeAmong gpos tb.toList with
  | some cv =>
    apply wpAny_genexprCode_hit hcode (cd.code hP ht) found
    exact rest cv s2.heap s2.toks tb (Heap.ExtBut.refl _ _) (Nat.le_refl _) hP ⟨#[], by simp⟩ ht
  | none =>
    apply wpAny_genexprCodeX hcode (cd.code hP ht) (cd.tab hP) found
    intro c' h' n' hx ge lt co _ tab _
    obtain ⟨_, _, _, _, _, _, _, _, _, _, _, _, _, _, _, _, _, _, _, tr, _⟩ := co
    exact rest _ h' n' _ hx (Nat.le_trans ge (Nat.le_of_lt lt)) tab.2 ⟨_, rfl⟩ tr
/-- ready to be walked -/
def ReadyP (X : Cx) (pins : List (Addr × Obj)) (σ : L2.St) (H1 : Hp) (P : Addr) (ps : Prs) (d : Int) (g : Int → Int → Int → Int) (a : Addr) (s5 : Shared) : Prop :=
  ∃ (fp wr : List Addr) (G : Array GenState → Array GenState → Prop) (F : Nat → Value → Prop) (St : Nat → Shared → Prop),
    WalksS X.prog X.w X.A.in1 a fp wr G ps.length F St ∧ St 0 s5 ∧ (∀ b ∈ fp, b < s5.heap.objs.size) ∧ (∀ j v, F j v → ∃ t, v = .int (valP ps d g j) t) ∧ ∀ s', Moved wr G s5 s' → ∃ H2, GxR.Tabbed P H1 H2 ∧ Inv X pins σ H2 s'
/-- what the walked list holds -/
def PrsAt (K : PySem.W.Frag) (H : Hp) (yl : Addr) (ps : Prs) : Prop := SqL K H yl (ps.map fun p => V.ref p.1) ∧ ∀ p ∈ ps, SqT K H p.1 [.int p.2.1, .int p.2.2]
theorem gen_prs {c P : Addr} {elt iter : Expr} {xa xb xc : Str} {pa pb pt gpos : Pos} {kt ic k : Nat} {scope : Scope} {ok : Int → Int → Int → Prop} {g : Int → Int → Int → Int} {te : TE} {Q' : Value → Shared → Prop} {R : Prs → Int → Hp → Prop}
    (hr : Room k X.A) (TB : GxR.TabB X.base X.mg c P) (hcode : X.env.code = .ref c) (S : GenT scope xa xb xc) (hN : X.N[ic]? = some xc) (hk : X.env.kindOf xc = some .cell) (hi : PE X iter te) (hel : EltT X.prog X.w scope xa xb xc elt ok g)
    (hs : ∀ v, genFold iter X.env v = pure v) (I : Inv X pins σ H s)
    (h : te σ H fun v H1 => ∃ (yl : Addr) (ps : Prs) (d : Int), v = .ref yl ∧ PrsAt X.K H1 yl ps ∧ (∀ p ∈ ps, ok p.2.1 p.2.2 d) ∧ σ[ic]? = some (some (.int d)) ∧ GxR.TabG H1 P ∧ R ps d H1)
    (hQ : ∀ ps d H1 a s5, R ps d H1 → ReadyP X pins σ H1 P ps d g a s5 → Q' (.ref a) s5) :
    wpAny (model X.prog X.w) X.A (eval (.GeneratorExp elt [⟨.Tuple [.Name xa pa, .Name xb pb] kt pt, iter, [], 0⟩] scope gpos) X.env) Q' X.xe s := by
  obtain ⟨cc, hcc⟩ := I.ok.has xc (.inl hk)
  have hfree : ∀ y ∈ scope.names, y.2 = .free → ∃ c, X.env.cells.lookup y.1 = some c := fun y hy hf => ⟨cc, by rw [S.only y hy hf]; exact hcc⟩
  have hclo : (cloFrom X.env.cells scope.names []).lookup xc = some cc := by rw [S.clo, hcc]; rfl
  apply wpAny_GeneratorExp_walksQT hr.hd S.co (closure_ok hfree) S.cell S.dot S.la S.lb S.ne S.kind (by have := hr.dp; omega) (hs := hs)
  apply thn (hi.run pins s σ H _ I h)
  rintro xv s1 ⟨v, H1, I1, r1, yl, ps, d, rfl, ⟨hyl, hT⟩, hok, hd, ⟨tb, hP, ht⟩, q1⟩
  obtain rfl : xv = Value.ref yl := r1
  obtain ⟨its, rv, pl, hz⟩ := I1.list hyl
  have lst := pl.isList
  have nits : its.length = ps.length := by rw [← rv.length, List.length_map]
  have iat : ∀ (j : Nat) (p : Addr × Int × Int), ps[j]? = some p → its[j]? = some (Value.ref p.1) := by
    intro j p hp
    have e : (ps.map fun (p : Addr × Int × Int) => V.ref p.1)[j]? = some (V.ref p.1) := by rw [List.getElem?_map, hp]; rfl
    obtain ⟨u, hu, ru⟩ := rv.get e
    cases (show u = Value.ref p.1 from ru)
    exact hu
  have tup : ∀ j : Nat, ∃ uv : Tok × Tok, ∀ p : Addr × Int × Int, ps[j]? = some p → s1.heap.IsTuple p.1 #[.int p.2.1 uv.1, .int p.2.2 uv.2] := by
    intro j
    cases hj : ps[j]? with
    | none => exact ⟨(0, 0), fun p z => nomatch z⟩
    | some p =>
      obtain ⟨ts, tv, ⟨o, e1, e2, n, e3⟩, _⟩ := I1.tuple (hT p (List.mem_of_getElem? hj))
      cases tv with
      | cons ra rb =>
        cases rb with
        | cons rb rc =>
          cases rc
          obtain ⟨u, rfl⟩ := _root_.id ra
          obtain ⟨v, rfl⟩ := _root_.id rb
          refine ⟨(u, v), fun q z => ?_⟩
          cases z
          exact ⟨o, e1, e2, n, e3⟩
  obtain ⟨tk, htk⟩ := Classical.skolem.mp tup
  obtain ⟨uc, td, huc⟩ : ∃ (uc : Value) (td : Tok), uc = .int d td ∧ s1.heap.IsCell cc (some uc) := by
    obtain ⟨m, _, hm⟩ := I1.loc
    obtain ⟨u, ru, lk⟩ := hm ic xc (.int d) hN hd (.inr (.inl hk))
    obtain ⟨td, rfl⟩ := _root_.id ru
    rcases lk with ⟨z, _⟩ | ⟨_, c2, e2, hc2⟩
    · rw [hk] at z
      cases z
    · rw [hcc] at e2
      cases e2
      exact ⟨_, td, rfl, hc2⟩
  obtain ⟨rfl, hcell⟩ := huc
  let Ts : Nat → Addr := fun j => ((ps[j]?).map fun (p : Addr × Int × Int) => p.1).getD 0
  let vs : Nat → Array Value := fun j => ((ps[j]?).map fun (p : Addr × Int × Int) => (#[.int p.2.1 (tk j).1, .int p.2.2 (tk j).2] : Array Value)).getD #[.none, .none]
  have pat : ∀ j, j < its.toArray.size → ∃ p : Addr × Int × Int, ps[j]? = some p := fun j hj => by
    have : j < ps.length := by simpa [nits] using hj
    exact ⟨ps[j], List.getElem?_eq_getElem this⟩
  have tsT : ∀ j, j < its.toArray.size → s1.heap.IsTuple (Ts j) (vs j) := fun j hj => by
    obtain ⟨p, e⟩ := pat j hj
    have := htk j p e
    simpa only [Ts, vs, e, Option.map_some, Option.getD_some] using this
  have tlt : ∀ j, j < its.toArray.size → Ts j < s1.heap.objs.size := fun j hj => by
    obtain ⟨_, e, _⟩ := tsT j hj
    exact Heap.lt_size e
  have hit : ∀ j, j < its.toArray.size → its.toArray[j]? = some (.ref (Ts j)) := fun j hj => by
    obtain ⟨p, e⟩ := pat j hj
    have := iat j p e
    simpa only [Ts, e, Option.map_some, Option.getD_some, List.getElem?_toArray] using this
  have ylt : yl < s1.heap.objs.size := by
    obtain ⟨_, e, _⟩ := _root_.id lst
    exact Heap.lt_size e
  have WW := fun (B : Around) (hB : B.handled = none) => (WalksU.listOfTuples (prog := X.prog) (w := X.w) hB s1.heap.objs.size yl (Nat.ne_of_lt ylt) its.toArray Ts vs hit fun j hj => Nat.ne_of_lt (tlt j hj)).bound
  apply wpAny_pyIter_list lst
  generalize ho : ({ cls := .type "list_iterator", data := .fields #[.ref yl, .int 0 0] } : Obj) = it0
  have iter0 : (s1.heap.push it0).IsListIter s1.heap.objs.size yl 0 := by
    subst ho
    exact ⟨_, Heap.get?_push_size _ rfl, rfl, rfl⟩
  have old : ∀ b u, s1.heap.get? b = some u → (s1.heap.push it0).get? b = some u := fun b u e => Heap.get?_push_of_some _ e
  have tabS : s1.heap.get? P = some { cls := .none, data := .fields tb } := I1.hok P _ hP
  have Plt : P < s1.heap.objs.size := Heap.lt_size tabS
  have lim2 : (s1.heap.push it0).NoLimit := I1.nolimit.push it0
  refine ⟨lim2, ?_⟩
  refine gcode (s2 := { s1 with heap := s1.heap.push it0 }) hcode (TB.code.keeps fun b u e => old b u (I1.bk b u e)) (old _ _ tabS) ht fun code h3 n3 tb3 hx hsz hP3 hmore ht3 => ?_
  obtain ⟨bm, ob, e1, e2, e3, e4, e5, e6, e7, e8⟩ := TB.bm
  have keep3 : ∀ b u, b ≠ P → s1.heap.get? b = some u → h3.get? b = some u := fun b u hb e => hx b u hb (old b u e)
  have sz3 : s1.heap.objs.size < h3.objs.size := by
    have e : (s1.heap.push it0).objs.size = s1.heap.objs.size + 1 := Heap.size_push ..
    have hsz' : (s1.heap.push it0).objs.size ≤ h3.objs.size := hsz
    omega
  have cP : cStatics ≠ P := fun e => by
    obtain ⟨_, hns, _⟩ := I1.nolimit
    obtain ⟨o', es, ep, ho', hd', _⟩ := hns
    rw [e, tabS] at ho'
    cases ho'
    cases hd'
  have clt : cStatics < s1.heap.objs.size := by
    obtain ⟨_, hns, _⟩ := I1.nolimit
    exact hns.lt
  apply wpAny_builtinsFor (m := X.mg) (by rw [I1.ok.glob]; exact ((I1.mod.glob.keeps I1.bk).push it0).extBut hx TB.gP) e1 e2 (keep3 _ _ e4 (I1.bk _ _ e5)) e6 e7 e8
  have yP : yl ≠ P := fun z => by
    obtain ⟨_, e, hc1, _, hd1⟩ := _root_.id lst
    rw [z, tabS] at e
    cases e
    cases hd1
  have tP : ∀ j, j < its.toArray.size → Ts j ≠ P := fun j hj z => by
    obtain ⟨_, e, hc1, _⟩ := tsT j hj
    rw [z, tabS] at e
    cases e
    cases hc1
  have ccP : cc ≠ P := fun z => by
    obtain ⟨o, e, hc1⟩ := _root_.id hcell
    rw [z, tabS] at e
    cases e
    cases hc1
  have cclt : cc < s1.heap.objs.size := by
    obtain ⟨o, e, _⟩ := _root_.id hcell
    exact Heap.lt_size e
  have lst3 : h3.IsList yl its.toArray := by
    obtain ⟨ob, e, r⟩ := _root_.id lst
    exact ⟨ob, keep3 _ _ yP e, r⟩
  have iter3 : h3.IsListIter s1.heap.objs.size yl 0 := iter0.at fun u e => hx _ u (Nat.ne_of_gt Plt) e
  have ts3 : ∀ j, j < its.toArray.size → h3.IsTuple (Ts j) (vs j) := fun j hj => (tsT j hj).at fun o e => keep3 _ _ (tP j hj) e
  have cell3 : h3.IsCell cc (some (.int d td)) := by
    obtain ⟨o, e, r⟩ := _root_.id hcell
    exact ⟨o, keep3 _ _ ccP e, r⟩
  refine ⟨s1.heap.objs.size, _, _, _, _, _, _, (fun _ => true), (fun i y => ∃ (p : Addr × Int × Int) (t : Tok), ps[i]? = some p ∧ y = .int (g p.2.1 p.2.2 d) t), rfl, WW, ?_, ⟨iter3, lst3, ts3⟩, ?_, lim2.extBut hx cP, ?_, ?_, ?_⟩
  · rintro i v ⟨hi, rfl⟩
    obtain ⟨p, e⟩ := pat i hi
    exact ⟨.int p.2.1 (tk i).1, .int p.2.2 (tk i).2, by simp only [vs, e, Option.map_some, Option.getD_some]⟩
  · intro b hb
    show b < h3.objs.size
    rcases List.mem_cons.mp hb with rfl | hb
    · exact sz3
    · rcases List.mem_cons.mp hb with rfl | hb
      · exact Nat.lt_trans ylt sz3
      · obtain ⟨j, hj, rfl⟩ := List.mem_map.mp hb
        exact Nat.lt_trans (tlt j (List.mem_range.mp hj)) sz3
  · intro z
    rcases List.mem_cons.mp z with z | z
    · exact Nat.ne_of_lt clt z
    · cases z
  · intro href hhref
    refine ⟨fun B E' i va vb s₂ m₂ hB hPv hn ha hb hk => ?_, fun B E' i va vb s₂ m₂ hB hPv hp hn ha hb hk => ?_⟩
    · simp only [List.forIn_nil]
      exact wpAny_pure ⟨rfl, GxR.keeps_refl _⟩
    · obtain ⟨hi, ev⟩ := hPv
      obtain ⟨p, e⟩ := pat i hi
      simp only [vs, e, Option.map_some, Option.getD_some] at ev
      obtain ⟨rfl, rfl⟩ : va = .int p.2.1 (tk i).1 ∧ vb = .int p.2.2 (tk i).2 := by simpa using congrArg Array.toList ev
      have c2 : s₂.heap.IsCell cc (some (.int d td)) := by
        obtain ⟨o, e9, r⟩ := _root_.id cell3
        refine ⟨o, hk cc ?_ ?_ o (hhref _ _ e9), r⟩
        · exact List.mem_range.mpr (Nat.lt_trans cclt sz3)
        · intro z
          rcases List.mem_cons.mp z with z | z
          · exact Nat.ne_of_lt cclt z
          · cases z
      exact wpAny_mono (hel _ B E' p.2.1 p.2.2 d _ _ td cc s₂ m₂ rfl (hok p (List.mem_of_getElem? e)) hn ha hb hclo c2) (fun y s3 r => ⟨⟨p, r.1.choose, e, r.1.choose_spec⟩, r.2⟩) fun _ _ e => e
  · intro a h5 n5 gs bare gt hsz5 hk5 W5 at5
    simp only [GxR.passing_true, List.length_range] at W5
    have nI : its.toArray.size = ps.length := by rw [List.size_toArray, nits]
    rw [nI] at W5 at5
    refine hQ ps d H1 a _ q1 ⟨_, _, _, _, _, W5.in4_1, at5, ?_, fun j v hv => ?_, fun s' mv => ?_⟩
    · intro b hb
      show b < h5.objs.size
      have e5 : h5.objs.size = a + 1 := hsz5
      have e3 : h3.objs.size < a := gt
      rw [e5]
      rcases List.mem_cons.mp hb with rfl | hb
      · exact Nat.lt_succ_self _
      · rcases List.mem_cons.mp hb with rfl | hb
        · exact Nat.lt_succ_of_lt e3
        · exact Nat.lt_succ_of_lt (Nat.lt_trans (show b < h3.objs.size from List.mem_range.mp hb) e3)
    · obtain ⟨i, hij, p, t, e, rfl⟩ := hv
      obtain ⟨hj, ej⟩ := List.getElem?_eq_some_iff.mp hij
      rw [List.getElem_range] at ej
      subst ej
      exact ⟨t, by rw [valP_some e]⟩
    · obtain ⟨more, em⟩ := hmore
      have apart : ∀ b u, s1.heap.get? b = some u → b ∉ h3.objs.size :: [s1.heap.objs.size] := by
        intro b u e hb
        have l := Heap.lt_size e
        rcases List.mem_cons.mp hb with z | z
        · rw [z] at l
          exact Nat.lt_asymm (show h3.objs.size < s1.heap.objs.size from l) sz3
        · rcases List.mem_cons.mp z with z | z
          · rw [z] at l
            exact Nat.lt_irrefl _ l
          · cases z
      have J := GxR.inv_tab (more := more) (h' := s'.heap) (g' := s'.gens) (d' := s'.drawn) (t' := s'.toks) I1 hP (fun b u hb e => mv.heap b u (apart b u e) (hk5 b u (keep3 b u hb e)))
        (by rw [← em]; exact mv.heap P _ (apart P _ tabS) (hk5 P _ hP3)) (AllBare.movedS (I1.bare.push bare) mv)
      rw [GxR.sh_eta s1 s' mv.os] at J
      exact ⟨_, ⟨⟨tb ++ more, upd_same, by rw [← em]; exact ht3⟩, fun b hb => upd_ne hb⟩, J⟩
/-- sum(elt for xa, xb in te); behind it the def's table may have grown -/
def tSumP (K : PySem.W.Frag) (P : Addr) (ok : Int → Int → Int → Prop) (g : Int → Int → Int → Int) (ic : Nat) (te : TE) : TE := fun σ H Q => te σ H fun v H1 =>
  ∃ (yl : Addr) (ps : Prs) (d : Int), v = .ref yl ∧ PrsAt K H1 yl ps ∧ (∀ p ∈ ps, ok p.2.1 p.2.2 d) ∧ σ[ic]? = some (some (.int d)) ∧ GxR.TabG H1 P ∧ ∀ H2, GxR.Tabbed P H1 H2 → Q (.int (sumP ps d g)) H2
theorem pe_sumP {c P : Addr} {elt iter : Expr} {xa xb xc : Str} {pa pb pt gpos p pos : Pos} {kt ic k : Nat} {scope : Scope} {ok : Int → Int → Int → Prop} {g : Int → Int → Int → Int} {te : TE}
    (hr : Room k X.A) (hg : Gl X "sum") (hm : X.mg "sum" = none) (TB : GxR.TabB X.base X.mg c P) (hcode : X.env.code = .ref c) (S : GenT scope xa xb xc) (hN : X.N[ic]? = some xc) (hk : X.env.kindOf xc = some .cell) (hi : PE X iter te) (hel : EltT X.prog X.w scope xa xb xc elt ok g)
    (hs : ∀ v, genFold iter X.env v = pure v) (hb : bootBuiltins "sum" = some (.builtin "sum") := by decide +kernel)
    (he : starEach [.GeneratorExp elt [⟨.Tuple [.Name xa pa, .Name xb pb] kt pt, iter, [], 0⟩] scope gpos] X.env = (false, eval (.GeneratorExp elt [⟨.Tuple [.Name xa pa, .Name xb pb] kt pt, iter, [], 0⟩] scope gpos) X.env) :: starEach [] X.env := by rfl) :
    PE X (.Call (.Name "sum" p) [.GeneratorExp elt [⟨.Tuple [.Name xa pa, .Name xb pb] kt pt, iter, [], 0⟩] scope gpos] [] pos) (tSumP X.K P ok g ic te) := by
  constructor
  intro pins s σ H Q I want
  apply wpAny_Call_Name_kw (ld_blt I hg hm hb ?_)
  apply PyProof.Rows.callWith_builtin1 ?_ he (by rfl)
  rw [he]
  show wpAny _ _ (spliced ((false, eval (.GeneratorExp elt [⟨.Tuple [.Name xa pa, .Name xb pb] kt pt, iter, [], 0⟩] scope gpos) X.env) :: backTo pos (starEach [] X.env))) _ _ s
  apply Calls.spliced_cons (gen_prs (R := fun ps d H1 => ∀ H2, GxR.Tabbed P H1 H2 → Q (.int (sumP ps d g)) H2) hr TB hcode S hN hk hi hel hs I want ?_)
  intro ps d H1 a s5 k5 ready
  obtain ⟨fp, wr, G, F, St, W, st0, below, vals, ends⟩ := ready
  apply Calls.spliced_nil
  apply call_sum_walkAnyS
  refine W.self 0 _ _ _ st0 ⟨a, fp, wr, G, _, F, St, valP ps d g, rfl, W, st0, below, vals, fun s' t' mv => ?_⟩
  obtain ⟨H2, tabbed, J⟩ := ends s' mv
  rw [preSum_sumP]
  exact ⟨.int _, H2, J, ⟨t', rfl⟩, k5 H2 tabbed⟩
end
/-! ### the element top * (bottom // below) -/
def okCut (a b d : Int) : Prop := CDivZ d b ∧ CMulW a (d.fdiv b)
def gCut (a b d : Int) : Int := a * d.fdiv b
theorem elt_cut {prog : Program} {w : World} {scope : Scope} {xa xb xc : Str} {p1 p2 p3 p4 p5 : Pos} (S : GenT scope xa xb xc) (da : (xa == ("__debug__" : Str)) = false := by decide) (db : (xb == ("__debug__" : Str)) = false := by decide) (dc : (xc == ("__debug__" : Str)) = false := by decide)
    (dk : (xc == ("__classdict__" : Str)) = false := by decide) :
    EltT prog w scope xa xb xc (.BinOp (.Name xa p1) .Mult (.BinOp (.Name xc p2) .FloorDiv (.Name xb p3) p4) p5) okCut gCut := by
  intro cenv B E a b d ta tb td c s m hs ho hn ha hb hc hcell
  have kf : cenv.scope.kind = .function := by rw [hs]; exact S.kind
  have la : cenv.kindOf xa = some .local := by show cenv.scope.names.lookup xa = _; rw [hs]; exact S.la
  have lb : cenv.kindOf xb = some .local := by show cenv.scope.names.lookup xb = _; rw [hs]; exact S.lb
  have lc : cenv.kindOf xc = some .free := by show cenv.scope.names.lookup xc = _; rw [hs]; exact S.lc
  apply wpAny_BinOp
  apply wpAny_Name (wpAny_loadName_local kf la hn ha ?_) da
  apply wpAny_BinOp
  apply wpAny_Name (wpAny_loadName_free kf lc hc hcell ?_ dk) dc
  apply wpAny_Name (wpAny_loadName_local kf lb hn hb ?_) db
  apply floordiv_int ho.1.1 ?_ (.inl (PyProof.noPylong_of_log2 ho.1.2))
  apply mul_int ?_ ho.2.ok
  exact ⟨⟨_, rfl⟩, GxR.keeps_tok _ _⟩
end Jf
set_option Elab.async false
set_option linter.all false
set_option maxRecDepth 100000
set_option maxHeartbeats 4000000
namespace Jf
open PySem PySem.Spec PyProof.Rows L2 Evl
/-! ### many fractions over one bottom -/
def lcmN (d e : Int) : Int := d.fdiv ((Nat.gcd d.natAbs e.natAbs : Nat) : Int) * e
theorem lcm_step {d e : Int} (hd : 0 < d) (he : 0 < e) : 0 < lcmN d e ∧ d ∣ lcmN d e ∧ e ∣ lcmN d e ∧ lcmN d e ≤ d * e := by
  have h1 : ((Nat.gcd d.natAbs e.natAbs : Nat) : Int) ∣ d := Int.ofNat_dvd_left.mpr (Nat.gcd_dvd_left _ _)
  have h2 : ((Nat.gcd d.natAbs e.natAbs : Nat) : Int) ∣ e := Int.ofNat_dvd_left.mpr (Nat.gcd_dvd_right _ _)
  have hp := gcd_pos (n := d) (d := e) (by omega)
  unfold lcmN
  have hp' : (0 : Int) < ((Nat.gcd d.natAbs e.natAbs : Nat) : Int) := by omega
  clear hp
  generalize ((Nat.gcd d.natAbs e.natAbs : Nat) : Int) = g at h1 h2 hp' ⊢
  obtain ⟨k, rfl⟩ := h1
  obtain ⟨m, rfl⟩ := h2
  have up : ∀ z : Int, 0 < g * z → 0 < z := fun z h => by
    rcases Int.lt_or_le 0 z with q | q
    · exact q
    · have := Int.mul_le_mul_of_nonneg_left q (Int.le_of_lt hp')
      rw [Int.mul_zero] at this
      omega
  have hk := up k hd
  rw [Int.mul_fdiv_cancel_left _ (by omega)]
  refine ⟨Int.mul_pos hk he, ⟨m, by rw [← Int.mul_assoc, Int.mul_comm k g]⟩, ⟨k, Int.mul_comm _ _⟩, ?_⟩
  have : k * (g * m) ≤ (g * k) * (g * m) := by
    refine Int.mul_le_mul_of_nonneg_right ?_ (Int.le_of_lt he)
    have : 1 * k ≤ g * k := Int.mul_le_mul_of_nonneg_right (by omega) (Int.le_of_lt hk)
    omega
  exact this
theorem cut_eq {q : Rat} {D : Int} (h : (q.den : Int) ∣ D) : ((gCut q.num (q.den : Int) D : Int) : Rat) = q * (D : Rat) := by
  obtain ⟨m, rfl⟩ := h
  unfold gCut
  rw [Int.mul_fdiv_cancel_left _ (den_ne q)]
  have e : (q.num : Rat) / (((q.den : Nat) : Int) : Rat) = q := by
    rw [← Rat.divInt_eq_div]
    exact Rat.num_divInt_den q
  have n0 : (((q.den : Nat) : Int) : Rat) ≠ 0 := fun z => den_ne q (by exact_mod_cast z)
  rw [Rat.intCast_mul, Rat.intCast_mul]
  grind
abbrev Qs := List (Addr × Rat)
def prs (qs : Qs) : Prs := qs.map fun p => (p.1, p.2.num, (p.2.den : Int))
def sumQ (qs : Qs) : Rat := (qs.map fun p => p.2).sum
theorem sum_cut (D : Int) : ∀ qs : Qs, (∀ p ∈ qs, (p.2.den : Int) ∣ D) → ((sumP (prs qs) D gCut : Int) : Rat) = sumQ qs * (D : Rat)
  | [], _ => by
    show ((0 : Int) : Rat) = 0 * (D : Rat)
    grind
  | p :: qs, h => by
    have ih := sum_cut D qs fun p hp => h p (List.mem_cons_of_mem _ hp)
    have e := cut_eq (h p List.mem_cons_self)
    show ((gCut p.2.num (p.2.den : Int) D + sumP (prs qs) D gCut : Int) : Rat) = (p.2 + sumQ qs) * (D : Rat)
    rw [Rat.intCast_add, ih, e]
    grind
theorem sum_divInt {qs : Qs} {D : Int} (hD : D ≠ 0) (h : ∀ p ∈ qs, (p.2.den : Int) ∣ D) : Rat.divInt (sumP (prs qs) D gCut) D = sumQ qs := by
  rw [Rat.divInt_eq_div, sum_cut D qs h]
  have : (D : Rat) ≠ 0 := fun z => hD (by exact_mod_cast z)
  grind
theorem sumP_abs {M : Nat} {d : Int} {g : Int → Int → Int → Int} : ∀ ps : Prs, (∀ p ∈ ps, (g p.2.1 p.2.2 d).natAbs ≤ M) → (sumP ps d g).natAbs ≤ ps.length * M
  | [], _ => by
    show (0 : Int).natAbs ≤ _
    simp
  | p :: ps, h => by
    have ih := sumP_abs ps fun q hq => h q (List.mem_cons_of_mem _ hq)
    have e := h p List.mem_cons_self
    show (g p.2.1 p.2.2 d + sumP ps d g).natAbs ≤ (ps.length + 1) * M
    have := abs_add_le (g p.2.1 p.2.2 d) (sumP ps d g)
    rw [Nat.succ_mul]
    omega
theorem fdiv_le {d e : Int} (he : 0 < e) (h : e ∣ d) (hd : 0 < d) : 0 ≤ d.fdiv e ∧ d.fdiv e ≤ d := by
  rw [Int.fdiv_eq_ediv_of_nonneg d (by omega)]
  exact ⟨Int.ediv_nonneg (by omega) (by omega), Int.ediv_le_self e (by omega)⟩
theorem cut_ok {q : Rat} {d : Int} {b c : Nat} (hb : Bd b q) (hd : 0 < d) (hc : d.natAbs < 2 ^ c) (h : (q.den : Int) ∣ d) (hl : b + c ≤ 8000) : okCut q.num (q.den : Int) d ∧ (gCut q.num (q.den : Int) d).natAbs < 2 ^ (b + c) := by
  obtain ⟨h1, h2⟩ := fdiv_le (den_pos q) h hd
  have hf : (d.fdiv (q.den : Int)).natAbs < 2 ^ c := by omega
  refine ⟨⟨⟨den_ne q, log_lt (bd_den hb) (by omega : b ≤ 9000) (by decide)⟩, mulW hb.1 hf (by omega)⟩, ?_⟩
  exact bn_mul hb.1 hf
end Jf
set_option Elab.async false
set_option linter.all false
set_option maxRecDepth 100000
set_option maxHeartbeats 4000000
namespace Jf
open PySem PySem.Spec PyProof.Rows L2 Evl GxR GenW
/-! ### all(e for x in a tuple), e of any kind that the layer reads -/
/-- the inner scope: one name, nothing captured -/
structure OneN (scope : Scope) (x : Str) : Prop where
  kind : scope.kind = .function
  co : scope.isCoroutine = false
  cell : ∀ y ∈ scope.names, y.2 ≠ .cell
  dot : scope.names.lookup (".0" : Str) = some NameKind.local
  loc : scope.names.lookup x = some .local
  free : ∀ y ∈ scope.names, y.2 ≠ .free
  ne : (".0" : Str) ≠ x
/-- the inner context: the callers' frames behind it, the walked iterator free to turn -/
def gxOf (X : Cx) (x : Str) (s : Shared) (H : Hp) (cenv : Env) (B : Around) (I : Addr) : Cx where
  prog := X.prog
  w := X.w
  K := X.K
  mg := X.mg
  base := X.base
  A := B
  N := [".0", x]
  s_0 := s
  H_0 := H
  env := cenv
  outer := X.stack
  stack := cenv :: X.stack
  ex := [I]
  fn := fun _ => true
  calm := true
  pn := []
  xe := fun _ _ => False
/-- the reading: from the left, till one says no -/
def rdAll (te : TE) : List V → Hp → (Bool → Hp → Prop) → Prop
  | [], H, Q => Q true H
  | v :: vs, H, Q => te [none, some v] H fun r H' => ∃ b, r = .bl b ∧ (b = true → rdAll te vs H' Q) ∧ (b = false → Q false H')
section
variable {X : Cx}
/-- where the generator stands: its object, its iterator -/
def gPins (a I t : Addr) (go : Obj) (i : Nat) (io : Obj) : List (Addr × Obj) := [(a, go), (I, io)]
def GInv (Y : Cx) (a I t : Addr) (go : Obj) (i : Nat) (H : Hp) (s : Shared) : Prop :=
  ∃ (σ : L2.St) (io : Obj), σ.length = 2 ∧ σ[0]? = some none ∧ io.cls = .type "tuple_iterator" ∧ io.data = .fields #[.ref t, .int i 0] ∧ Inv Y [(a, go), (I, io)] σ H s
def gDone (Y : Cx) (Q : Bool → Hp → Prop) (_ : Nat) (_ s : Shared) : Prop := ∃ σ H, Inv Y [] σ H s ∧ Q true H
def gEnd (Y : Cx) (Q : Bool → Hp → Prop) : GenEnd := fun n s₀ r s => ((r = .ok (.ret .none) ∨ r = .ok .next) ∧ gDone Y Q n s₀ s) ∨ ∃ e, r = .error e ∧ False
def gProt (Y : Cx) (a I t : Addr) (go : Obj) (Q : Bool → Hp → Prop) : Protocol := fun _ _ v s kap =>
  ∃ b i H, v = .bool b ∧ GInv Y a I t go i H s ∧ (b = false → Q false H) ∧ (b = true → ∀ s', s'.os = s.os → AllBare s'.gens → s'.heap = s.heap → kap (.send .none) s')
theorem GInv.woke {Y : Cx} {a I t : Addr} {go : Obj} {i : Nat} {H : Hp} {s s' : Shared} (h : GInv Y a I t go i H s) (o : s'.os = s.os) (g : AllBare s'.gens) (e : s'.heap = s.heap) : GInv Y a I t go i H s' := by
  obtain ⟨σ, io, l, z, c, d, J⟩ := h
  refine ⟨σ, io, l, z, c, d, J.call' (ch := []) o ?_ ?_ g fun b z => by simp at z⟩
  · rw [e]
    exact Un.kept fun _ _ q => q
  · rw [e]
    exact J.hok
theorem Inv.sqt {Y : Cx} {pins : List (Addr × Obj)} {σ : L2.St} {H : Hp} {s : Shared} {t : Addr} {xs : List V} (J : Inv Y pins σ H s) (h : SqT Y.K Y.H_0 t xs) : SqT Y.K H t xs := by
  rcases h with (h | ⟨o, h⟩) | h
  · exact .inl (.inl (J.base.tups _ _ h))
  · exact .inl (.inr ⟨o, J.base.frzs _ _ _ h⟩)
  · exact .inr h
theorem GInv.turn {Y : Cx} {a I : Addr} {go io : Obj} {σ : L2.St} {H : Hp} {s : Shared} {h' : Heap} (J : Inv Y [(a, go), (I, io)] σ H s) (hex : I ∈ Y.ex) (haI : a ≠ I) (hpn : Y.pn = []) (hcl : Y.env.cells = [])
    (k : ∀ b o, b ≠ I → s.heap.get? b = some o → h'.get? b = some o) : Inv Y [(a, go)] σ H { s with heap := h' } := by
  have pI := J.pin (I, io) (List.mem_append_right _ (by simp))
  have J0 : Inv Y [(a, go)] σ H s := J.pins_of fun p hp => J.pin p (List.mem_append_right _ (by
    rw [List.mem_singleton.mp hp]
    simp))
  refine J0.turned (t' := s.toks) k pI.2.1 pI.2.2.1 (.inl hex) (fun y c e => ?_) fun p hp => ?_
  · rw [hcl] at e
    cases e
  · rw [hpn, List.nil_append, List.mem_singleton] at hp
    rw [hp]
    exact haI
theorem seg_allLoop {Y : Cx} {Aw : Around} {elt iter : Expr} {x : Str} {px pos : Pos} {scope : Scope} {a I t : Addr} {go : Obj} {xs : List V} {te : TE} {Q : Bool → Hp → Prop}
    (hA : Aw.handled = none) (hY : Y.A = Aw.over (.compLoop (.GeneratorExp elt [⟨.Name x px, iter, [], 0⟩] scope pos) 0 (.ref I) .none Y.env) [])
    (hN : Y.N = [(".0" : Str), x]) (S : OneN scope x) (hsc : Y.env.scope = scope) (hcl : Y.env.cells = []) (hex : I ∈ Y.ex) (haI : a ≠ I) (hIt : t ≠ I) (hpn : Y.pn = []) (hxe : Y.xe = fun _ _ => False)
    (hel : PE Y elt te) (hT : SqT Y.K Y.H_0 t xs) (hgo : ∀ v, go.data ≠ .cell v) :
    ∀ (vs : List V) (i : Nat) (H : Hp) (s₀ s : Shared), xs.drop i = vs → GInv Y a I t go i H s → rdAll te vs H Q →
      Seg (model Y.prog Y.w) Aw (gEnd Y Q) (gProt Y a I t go Q) vs.length s₀ (.compLoop (.GeneratorExp elt [⟨.Name x px, iter, [], 0⟩] scope pos) 0 (.ref I) .none Y.env)
        ((model Y.prog Y.w).den (.compLoop (.GeneratorExp elt [⟨.Name x px, iter, [], 0⟩] scope pos) 0 (.ref I) .none Y.env)) [] s := by
  have hh' : (Aw.over (.compLoop (.GeneratorExp elt [⟨.Name x px, iter, [], 0⟩] scope pos) 0 (.ref I) .none Y.env) []).handled = none := hA
  have hco : Y.env.scope.isCoroutine = false := by rw [hsc]; exact S.co
  intro vs
  induction vs with
  | nil =>
    intro i H s₀ s hd hG hr
    obtain ⟨σ, io, l, z, hc, hdd, J⟩ := hG
    obtain ⟨its, rv, tp, _⟩ := J.tuple (Inv.sqt J hT)
    have pI := J.pin (I, io) (List.mem_append_right _ (by simp))
    have hlen : its.toArray[i]? = none := by
      have h1 := rv.length
      have h2 : xs.length ≤ i := List.drop_eq_nil_iff.mp hd
      rw [List.getElem?_toArray]
      exact List.getElem?_eq_none (by omega)
    show Seg _ Aw _ _ _ s₀ _ ((compTurn (.GeneratorExp elt [⟨.Name x px, iter, [], 0⟩] scope pos) 0 (.ref I) .none Y.env).onRaise (leaving Y.env)) [] s
    rw [compTurn_gen, Sem.onRaise_eq_wrap]
    refine seg_bind_wrap (wpAny_standAt ?_)
    refine seg_bind_wrap (wpAny_pyNext_tuple_end hh' ⟨io, pI.1, hc, hdd⟩ tp hlen fun h' hx => ?_)
    refine seg_end (.ok .next) (.inl ⟨.inr rfl, σ, H, ?_, hr⟩)
    exact (GInv.turn J hex haI hpn hcl fun b o hb e => hx b o hb e).pins_of fun p hp => by simp at hp
  | cons v vs ih =>
    intro i H s₀ s hd hG hr
    obtain ⟨σ, io, l, z, hc, hdd, J⟩ := hG
    obtain ⟨its, rv, tp, _⟩ := J.tuple (Inv.sqt J hT)
    have pI := J.pin (I, io) (List.mem_append_right _ (by simp))
    have pa := J.pin (a, go) (List.mem_append_right _ (by simp))
    have hxi : xs[i]? = some v := by
      have := congrArg (fun q : List V => q[0]?) hd
      simpa using this
    have hd2 : xs.drop (i + 1) = vs := by
      have := congrArg List.tail hd
      simpa [List.tail_drop] using this
    obtain ⟨u, hu, ru⟩ := rv.get hxi
    show Seg _ Aw _ _ _ s₀ _ ((compTurn (.GeneratorExp elt [⟨.Name x px, iter, [], 0⟩] scope pos) 0 (.ref I) .none Y.env).onRaise (leaving Y.env)) [] s
    rw [compTurn_gen, Sem.onRaise_eq_wrap]
    refine seg_bind_wrap (wpAny_standAt ?_)
    refine seg_bind_wrap (wpAny_pyNext_tuple_item (i := i) (x := u) ⟨io, pI.1, hc, hdd⟩ tp (by rw [List.getElem?_toArray]; exact hu) fun h' it' sb => ?_)
    obtain ⟨io', hio', hc', hd'⟩ := it'
    have J1 : Inv Y [(a, go), (I, io')] σ H { s with heap := h' } := by
      have J0 := GInv.turn J hex haI hpn hcl fun b o hb e => sb.extBut b o hb e
      refine J0.pins_of fun p hp => ?_
      rcases List.mem_cons.mp hp with rfl | hp
      · exact J0.pin _ (List.mem_append_right _ (by simp))
      · rw [List.mem_singleton] at hp
        subst hp
        exact ⟨hio', pI.2.1, pI.2.2.1, pI.2.2.2.1, fun v q => by rw [hd'] at q; cases q⟩
    refine seg_bind_wrap (wpAny_of_eq (rfl : letOwnedTupleGo (.Name x px) (.ref I) u = pure ()) ?_)
    have nd : Y.N.Nodup := by
      rw [hN]
      simp [S.ne]
    have lc : Loc Y.env.scope x := by
      rw [hsc]
      exact .inl S.loc
    refine seg_bind_wrap ?_
    rw [← hY]
    refine wpAny_mono ((pg_name (X := Y) (pos := px) (i := 1) (x := x) nd (by rw [hN]; rfl) lc (by right; rw [hsc]; exact S.loc)).run _ _ σ H v u (fun σ' H' => σ' = [none, some v] ∧ H' = H) J1 ru ?_) (fun _ s2 h2 => ?_) fun e s' hx => by rw [hxe] at hx; exact hx.elim
    · refine ⟨?_, rfl⟩
      match σ, l, z with
      | [none, y], _, _ => rfl
      | [some _, y], _, z => simp at z
    obtain ⟨σ2, H2, J2, rfl, rfl⟩ := h2
    refine seg_bind_wrap ?_
    simp only [List.forIn_nil]
    refine wpAny_pure ?_
    simp only [if_true]
    have hy : ∀ v, yieldOut Y.env v = yieldValue v := fun v => by simp only [yieldOut, hco, Bool.false_eq_true, if_false]
    simp only [hy]
    rw [Sem.bind_eq_wrap', Sem.bind_eq_wrap', Sem.wrap_wrap, Sem.wrap_wrap]
    refine seg_wrap ?_
    rw [← hY]
    refine wpAny_mono (hel.run _ _ _ _ _ J2 hr) (fun y s3 h3 => ?_) fun e s' hx => by rw [hxe] at hx; exact hx.elim
    obtain ⟨r, H3, J3, rr, b, rfl, ht, hf⟩ := h3
    obtain rfl : y = Value.bool b := rr
    have G3 : GInv Y a I t go (i + 1) H3 s3 := ⟨_, io', rfl, rfl, hc', hd', J3⟩
    refine seg_at (seg_yield rfl rfl rfl ⟨b, i + 1, H3, rfl, G3, hf, fun hb s' o g e => ?_⟩)
    exact seg_again rfl (ih (i + 1) H3 s' s' hd2 (G3.woke o g e) (ht hb))
end
theorem seg_allStart {Y : Cx} {Aw : Around} {elt iter : Expr} {x : Str} {px pos : Pos} {scope : Scope} {a I t : Addr} {go : Obj} {xs : List V} {te : TE} {Q : Bool → Hp → Prop}
    (hA : Aw.handled = none) (hY : Y.A = Aw.over (.compLoop (.GeneratorExp elt [⟨.Name x px, iter, [], 0⟩] scope pos) 0 (.ref I) .none Y.env) [])
    (hN : Y.N = [(".0" : Str), x]) (S : OneN scope x) (hsc : Y.env.scope = scope) (hcl : Y.env.cells = []) (hex : I ∈ Y.ex) (haI : a ≠ I) (hIt : t ≠ I) (hpn : Y.pn = []) (hxe : Y.xe = fun _ _ => False)
    (hel : PE Y elt te) (hT : SqT Y.K Y.H_0 t xs) (hgo : ∀ v, go.data ≠ .cell v) {H : Hp} {s₀ s : Shared} (hG : GInv Y a I t go 0 H s) (hr : rdAll te xs H Q) :
    Seg (model Y.prog Y.w) Aw (gEnd Y Q) (gProt Y a I t go Q) xs.length s₀ (.compStart (.GeneratorExp elt [⟨.Name x px, iter, [], 0⟩] scope pos) 0 (.ref I) .none Y.env)
      ((model Y.prog Y.w).den (.compStart (.GeneratorExp elt [⟨.Name x px, iter, [], 0⟩] scope pos) 0 (.ref I) .none Y.env)) [] s := by
  have go1 : ∀ s₀, Seg (model Y.prog Y.w) Aw (gEnd Y Q) (gProt Y a I t go Q) xs.length s₀ (.compStart (.GeneratorExp elt [⟨.Name x px, iter, [], 0⟩] scope pos) 0 (.ref I) .none Y.env) (.pure (.again (.compLoop (.GeneratorExp elt [⟨.Name x px, iter, [], 0⟩] scope pos) 0 (.ref I) .none Y.env))) [] s := fun s₀ => by
    apply seg_again rfl
    exact seg_allLoop hA hY hN S hsc hcl hex haI hIt hpn hxe hel hT hgo xs 0 H s₀ s (List.drop_zero ..) hG hr
  obtain ⟨σ, io, l, z, hc, hdd, J⟩ := hG
  obtain ⟨its, rv, tp, _⟩ := J.tuple (Inv.sqt J hT)
  have pI := J.pin (I, io) (List.mem_append_right _ (by simp))
  have hh : (Aw.over (.compStart (.GeneratorExp elt [⟨.Name x px, iter, [], 0⟩] scope pos) 0 (.ref I) .none Y.env) []).handled = none := hA
  have W := Walks.tuple (prog := Y.prog) (w := Y.w) hh I t hIt its.toArray
  have again := go1 s₀
  show Seg _ Aw _ _ _ s₀ _ ((compStart _ 0 (.ref I) .none Y.env).onRaise (leaving Y.env)) [] s
  unfold compStart
  rw [Sem.onRaise_eq_wrap]
  apply seg_bind_wrap (m := ask)
  apply wpAny_askSetting
  split
  · exact again
  · apply seg_bind_wrap
    apply wpAny_rule
    apply seg_bind_wrap
    apply wpAny_standAt
    apply seg_bind_wrap
    exact W.self 0 s _ _ ⟨⟨io, pI.1, hc, hdd⟩, tp⟩ again
/-- the generator's own object -/
structure GenO (go : Obj) (g : Nat) : Prop where
  cls : go.cls = .type "generator"
  data : ∃ nm qn, go.data = .fields #[.int g 0, nm, qn]
  slots : go.slots = #[]
theorem GenO.at {go : Obj} {g : Nat} {h : Heap} {a : Addr} (G : GenO go g) (e : h.get? a = some go) : h.IsGen a g := by
  obtain ⟨nm, qn, d⟩ := G.data
  exact ⟨go, nm, qn, e, G.cls, d, G.slots⟩
theorem inv_gens {Y : Cx} {σ : L2.St} {H : Hp} {s s' : Shared} {pins : List (Addr × Obj)} (J : Inv Y pins σ H s) (o : s'.os = s.os) (g : AllBare s'.gens) (k : ∀ b o, s.heap.get? b = some o → s'.heap.get? b = some o) : Inv Y pins σ H s' :=
  J.call' (ch := []) o (Un.kept k) (J.hok.kept k) g fun b z => by simp at z
theorem all_loop {Y : Cx} {A : Around} {a I t : Addr} {go : Obj} {g : Nat} {R : Result → Shared → Prop} {Q : Bool → Hp → Prop} (hh : A.handled = none) (hd : A.depth < recursionLimit) (G : GenO go g)
    (fin : ∀ b σ H s, Inv Y [] σ H s → Q b H → R (.ok (.ret (.bool b))) s) :
    ∀ (n : Nat) (s : Shared), s.heap.get? a = some go → s.heap.NoLimit → (∃ gs, s.gens[g]? = some gs ∧ gs.Goes (model Y.prog Y.w) A.in1.in1 (gEnd Y Q) (gProt Y a I t go Q) n (.send .none) (s.setGen g .running)) →
      codeAny (model Y.prog Y.w) A (.builtin "all.loop" ⟨[.ref a], []⟩) R s := by
  intro n
  induction n with
  | zero =>
    intro s ha hl ⟨gs, hgs, hgo⟩
    apply codeAny_builtin F.entry_all_loop
    rw [Around.under_plainId F.plain_all_loop _]
    show wpAny _ A.in1 (pyNext (.ref a) >>= _) _ _ s
    apply wpAny_bind
    apply next_genG (A := A.in1) (F := gDone Y Q) (Er := fun _ _ => False) hh hl hd (G.at ha) hgs hgo
    · intro v s1 gs' hb hv
      obtain ⟨b, i, H, rfl, hG, hf, ht⟩ := hv
      cases b with
      | true =>
        obtain ⟨_, _, _, _, _, _, J⟩ := hG
        exact False.elim (ht rfl s1 rfl J.bare rfl)
      | false =>
        obtain ⟨σ, io, _, _, _, _, J⟩ := hG
        apply wpAny_bind
        apply wpAny_holding
        apply wpAny_truthy_bool
        apply wpAny_bind
        apply wpAny_letGo
        show wpAny _ _ (rule _ >>= _) _ _ _
        apply wpAny_bind
        apply wpAny_rule
        apply wpAny_pure
        exact fin false σ H _ (inv_gens (J.pins_of fun p hp => by simp at hp) rfl (allBare_setGen J.bare hb) fun _ _ e => e) (hf rfl)
    · intro s1 hp h' hk
      obtain ⟨σ, H, J, q⟩ := hp
      show wpAny _ _ (rule _ >>= _) _ _ _
      apply wpAny_bind
      apply wpAny_rule
      apply wpAny_pure
      exact fin true σ H _ (inv_gens J rfl (allBare_setGen J.bare rfl) hk) q
    · intro e s1 he
      exact he.elim
  | succ n ih =>
    intro s ha hl ⟨gs, hgs, hgo⟩
    have hgl : g < s.gens.size := (Array.getElem?_eq_some_iff.mp hgs).1
    apply codeAny_builtin F.entry_all_loop
    rw [Around.under_plainId F.plain_all_loop _]
    show wpAny _ A.in1 (pyNext (.ref a) >>= _) _ _ s
    apply wpAny_bind
    apply wpAny_gsz (n := g + 1) hgl
    apply next_genG (A := A.in1) (F := gDone Y Q) (Er := fun _ _ => False) hh hl hd (G.at ha) hgs hgo
    · intro v s1 gs' hb hv hsz
      obtain ⟨b, i, H, rfl, hG, hf, ht⟩ := hv
      have hG' := hG
      obtain ⟨σ, io, _, _, _, _, J⟩ := hG'
      have pa := J.pin (a, go) (List.mem_append_right _ (by simp))
      apply wpAny_bind
      apply wpAny_holding
      apply wpAny_truthy_bool
      apply wpAny_bind
      apply wpAny_letGo
      cases b with
      | false =>
        show wpAny _ _ (rule _ >>= _) _ _ _
        apply wpAny_bind
        apply wpAny_rule
        apply wpAny_pure
        exact fin false σ H _ (inv_gens (J.pins_of fun p hp => by simp at hp) rfl (allBare_setGen J.bare hb) fun _ _ e => e) (hf rfl)
      | true =>
        simp only [if_true]
        have hsz1 : g < s1.gens.size := by
          have q : (s1.setGen g gs').gens.size = s1.gens.size := setGen_size _ _ _
          have : g + 1 ≤ (s1.setGen g gs').gens.size := hsz
          omega
        refine wpAny_pure ⟨plainId_quiet F.plain_all_loop _, ih (s1.setGen g gs') pa.1 J.nolimit ⟨gs', setGen_at hsz1, ?_⟩⟩
        exact ht rfl _ rfl (allBare_setGen (s := s1.setGen g gs') (allBare_setGen J.bare hb) rfl) rfl
    · intro s1 hp h' hk hsz
      obtain ⟨σ, H, J, q⟩ := hp
      show wpAny _ _ (rule _ >>= _) _ _ _
      apply wpAny_bind
      apply wpAny_rule
      apply wpAny_pure
      exact fin true σ H _ (inv_gens J rfl (allBare_setGen J.bare rfl) hk) q
    · intro e s1 he
      exact he.elim
theorem clo_none {cells : List (Str × Addr)} : ∀ {ns : List (Str × NameKind)} {acc : List (Str × Addr)}, (∀ y ∈ ns, y.2 ≠ .free) → cloFrom cells ns acc = acc
  | [], _, _ => rfl
  | (n, k) :: r, acc, h => by
    have hk : k ≠ .free := h (n, k) (by simp)
    unfold cloFrom
    cases k <;> first | exact absurd rfl hk | exact clo_none fun y hy => h y (List.mem_cons_of_mem _ hy)
theorem envs_loop {elt iter : Expr} {x : Str} {px pos : Pos} {scope : Scope} {it acc : Value} {env : Env} {A : Around} {l : List Env} (h : A.frames = some l) : (A.over (.compLoop (.GeneratorExp elt [⟨.Name x px, iter, [], 0⟩] scope pos) 0 it acc env) []).frames = some (env :: l) := by
  show pushEnvs (Code.envs (.compLoop (.GeneratorExp elt [⟨.Name x px, iter, [], 0⟩] scope pos) 0 it acc env)) (pushEnvs [] A.frames) = _
  rw [h]
  rfl
theorem room_loop {k : Nat} {A : Around} {elt iter : Expr} {x : Str} {px pos : Pos} {scope : Scope} {it acc : Value} {env : Env} (r : Room (k + 1) A) : Room k (A.in1.in1.over (.compLoop (.GeneratorExp elt [⟨.Name x px, iter, [], 0⟩] scope pos) 0 it acc env) []) := by
  have h1 : (A.in1.in1.over (.compLoop (.GeneratorExp elt [⟨.Name x px, iter, [], 0⟩] scope pos) 0 it acc env) []).depth = A.in1.in1.depth + 1 := rfl
  have h2 : (A.in1.in1.over (.compLoop (.GeneratorExp elt [⟨.Name x px, iter, [], 0⟩] scope pos) 0 it acc env) []).units = A.in1.in1.units + 3 := rfl
  have h3 : A.in1.in1.depth = A.depth := rfl
  have h4 : A.in1.in1.units = A.units + 1 + 1 := rfl
  have h5 := r.dp
  have h6 := r.un
  exact ⟨r.hd, by rw [h1, h3]; omega, by rw [h2, h4]; omega⟩
section
variable {X : Cx} {pins : List (Addr × Obj)} {σ : L2.St} {H : Hp} {s : Shared}
/-- made, not begun; what its whole walk by all leaves -/
def ReadyA (X : Cx) (pins : List (Addr × Obj)) (σ : L2.St) (te : TE) (xs : List V) (H2 : Hp) (a : Addr) (s5 : Shared) : Prop :=
  ∃ (go : Obj) (g : Nat), GenO go g ∧ s5.heap.get? a = some go ∧ s5.heap.NoLimit ∧ g < s5.gens.size ∧ ∀ Q : Bool → Hp → Prop, rdAll te xs H2 Q → ∃ (Y : Cx) (I t : Addr),
    Y.prog = X.prog ∧ Y.w = X.w ∧ (∃ gs, s5.gens[g]? = some gs ∧ gs.Goes (model Y.prog Y.w) X.A.in1.in1 (gEnd Y Q) (gProt Y a I t go Q) xs.length (.send .none) (s5.setGen g .running)) ∧
    ∀ b σ' H' s', Inv Y [] σ' H' s' → Q b H' → ∃ H'', Inv X pins σ H'' s' ∧ Q b H''
theorem gen_tup {c P : Addr} {elt iter : Expr} {x : Str} {px gpos : Pos} {scope : Scope} {te ti : TE} {k : Nat} {Q' : Value → Shared → Prop} {R : List V → Hp → Prop}
    (hr : Room (k + 1) X.A) (TB : GxR.TabB X.base X.mg c P) (hcode : X.env.code = .ref c) (S : OneN scope x) (hi : PE X iter ti)
    (hel : ∀ (s : Shared) (H : Hp) (C : Addr) (code : Value) (I : Addr), Room k (X.A.in1.in1.over (.compLoop (.GeneratorExp elt [⟨.Name x px, iter, [], 0⟩] scope gpos) 0 (.ref I) .none (genEnv scope [] C code builtinsNs X.env)) []) →
      PE (gxOf X x s H (genEnv scope [] C code builtinsNs X.env) (X.A.in1.in1.over (.compLoop (.GeneratorExp elt [⟨.Name x px, iter, [], 0⟩] scope gpos) 0 (.ref I) .none (genEnv scope [] C code builtinsNs X.env)) []) I) elt te)
    (hs : ∀ v, genFold iter X.env v = pure v) (I0 : Inv X pins σ H s)
    (h : ti σ H fun v H1 => ∃ (t : Addr) (xs : List V), v = .ref t ∧ SqT X.K H1 t xs ∧ GxR.TabG H1 P ∧ ∀ H2, GxR.Tabbed P H1 H2 → R xs H2)
    (hQ : ∀ xs H2 a s5, R xs H2 → ReadyA X pins σ te xs H2 a s5 → Q' (.ref a) s5) :
    wpAny (model X.prog X.w) X.A (eval (.GeneratorExp elt [⟨.Name x px, iter, [], 0⟩] scope gpos) X.env) Q' X.xe s := by
  have hcl : closureFor scope X.env = pure [] := by
    rw [closure_ok fun y hy hf => absurd hf (S.free y hy), clo_none S.free]
  have hroom : X.A.depth < recursionLimit := by
    have := hr.dp
    omega
  apply wpAny_GeneratorExp_make S.co hcl S.cell S.dot S.kind hroom ?_ hs
  apply thn (hi.run pins s σ H _ I0 h)
  rintro xv s1 ⟨v, H1, I1, r1, t, xs, rfl, hT, ⟨tb, hP, ht⟩, q1⟩
  obtain rfl : xv = Value.ref t := r1
  obtain ⟨its, rv, tp, _⟩ := I1.tuple hT
  apply wpAny_pyIter_tuple tp
  generalize ho : ({ cls := .type "tuple_iterator", data := .fields #[.ref t, .int 0 0] } : Obj) = it0
  have old : ∀ b u, s1.heap.get? b = some u → (s1.heap.push it0).get? b = some u := fun b u e => Heap.get?_push_of_some _ e
  have here : (s1.heap.push it0).get? s1.heap.objs.size = some it0 := by
    subst ho
    exact Heap.get?_push_size _ rfl
  have tabS : s1.heap.get? P = some { cls := .none, data := .fields tb } := I1.hok P _ hP
  have Plt : P < s1.heap.objs.size := Heap.lt_size tabS
  have lim2 : (s1.heap.push it0).NoLimit := I1.nolimit.push it0
  refine ⟨lim2, ?_⟩
  refine gcode (s2 := { s1 with heap := s1.heap.push it0 }) hcode (TB.code.keeps fun b u e => old b u (I1.bk b u e)) (old _ _ tabS) ht fun code h3 n3 tb3 hx hsz hP3 hmore ht3 => ?_
  obtain ⟨bm, ob, e1, e2, e3, e4, e5, e6, e7, e8⟩ := TB.bm
  have keep3 : ∀ b u, b ≠ P → s1.heap.get? b = some u → h3.get? b = some u := fun b u hb e => hx b u hb (old b u e)
  have nP : s1.heap.objs.size ≠ P := Nat.ne_of_gt Plt
  have here3 : h3.get? s1.heap.objs.size = some it0 := hx _ _ nP here
  have sz3 : s1.heap.objs.size < h3.objs.size := Heap.lt_size here3
  have cP : cStatics ≠ P := fun e => by
    obtain ⟨_, hns, _⟩ := I1.nolimit
    obtain ⟨o', es, ep, ho', hd', _⟩ := hns
    rw [e, tabS] at ho'
    cases ho'
    cases hd'
  apply wpAny_builtinsFor (m := X.mg) (by rw [I1.ok.glob]; exact ((I1.mod.glob.keeps I1.bk).push it0).extBut hx TB.gP) e1 e2 (keep3 _ _ e4 (I1.bk _ _ e5)) e6 e7 e8
  intro h5 hns hsb
  obtain ⟨more, em⟩ := hmore
  subst em
  have I4 := GxR.inv_tab (more := more) (h' := h3) (g' := s1.gens) (d' := s1.drawn) (t' := n3) I1 hP keep3 hP3 I1.bare
  have H2t : (upd H1 P (.tbl (tb ++ more))) s1.heap.objs.size = none := by
    rw [upd_ne nP]
    exact I1.hok.fresh (Nat.le_refl _)
  have T2 : SqT X.K (upd H1 P (.tbl (tb ++ more))) t xs := by
    have ne : ∀ u, H1 t = some u → (∀ q, u ≠ .tbl q) → t ≠ P := fun u e q z => by
      rw [z, hP] at e
      exact q tb (Option.some.inj e).symm
    rcases hT with (z | ⟨o, z⟩) | z
    · exact .inl (.inl (by rw [upd_ne (ne _ z fun q y => by cases y)]; exact z))
    · exact .inl (.inr ⟨o, by rw [upd_ne (ne _ z fun q y => by cases y)]; exact z⟩)
    · exact .inr z
  generalize hgo : ({ cls := .type "generator", data := .fields #[.int s1.gens.size 0, .str "<genexpr>" (n3 + 1), .str (X.env.qual ++ "<genexpr>") (n3 + 1 + 1)] } : Obj) = go
  have GO : GenO go s1.gens.size := by
    subst hgo
    exact ⟨rfl, ⟨_, _, rfl⟩, rfl⟩
  have k5 : ∀ b u, h3.get? b = some u → h5.get? b = some u := fun b u e => hsb.extBut b u (Nat.ne_of_lt (Heap.lt_size e)) (Heap.get?_push_of_some _ e)
  have k6 : ∀ b u, h3.get? b = some u → (h5.push go).get? b = some u := fun b u e => Heap.get?_push_of_some _ (k5 b u e)
  have sz5 : h5.objs.size = h3.objs.size + 1 := by rw [hsb.1, Heap.size_push]
  have hga : (h5.push go).get? h5.objs.size = some go := by
    subst hgo
    exact Heap.get?_push_size _ rfl
  refine hQ xs (upd H1 P (.tbl (tb ++ more))) _ _ (q1 _ ⟨⟨_, upd_same, ht3⟩, fun b hb => upd_ne hb⟩) ⟨go, s1.gens.size, GO, hga, I4.nolimit.keeps k6, by show _ < (s1.gens.push _).size; rw [Array.size_push]; exact Nat.lt_succ_self _, fun Q hrd => ?_⟩
  have tlt : t < s1.heap.objs.size := by
    obtain ⟨o, e, _⟩ := _root_.id tp
    exact Heap.lt_size e
  have hIt : t ≠ s1.heap.objs.size := Nat.ne_of_lt tlt
  have haI : h5.objs.size ≠ s1.heap.objs.size := by
    rw [sz5]
    omega
  have nst : ∀ b, s1.heap.objs.size ≤ b → b ∉ frs X.stack := fun b hb hm => by
    rcases List.mem_cons.mp (I1.stkSub b hm) with z | z
    · rw [z] at hb
      exact absurd (Nat.lt_of_lt_of_le I1.lt hb) (Nat.lt_irrefl _)
    · exact I1.nofs hb z
  have itd : it0.cls = .type "tuple_iterator" ∧ it0.data = .fields #[.ref t, .int ((0 : Nat) : Int) 0] := by
    subst ho
    exact ⟨rfl, rfl⟩
  have god : ∀ v, go.data ≠ .cell v := fun v q => by
    obtain ⟨nm, qn, d⟩ := GO.data
    rw [d] at q
    cases q
  have KY : (gxOf X x { s1 with heap := h3, gens := s1.gens, drawn := s1.drawn, toks := n3 } (upd H1 P (.tbl (tb ++ more))) (genEnv scope [] h3.objs.size code builtinsNs X.env)
      (X.A.in1.in1.over (.compLoop (.GeneratorExp elt [⟨.Name x px, iter, [], 0⟩] scope gpos) 0 (.ref s1.heap.objs.size) .none (genEnv scope [] h3.objs.size code builtinsNs X.env)) []) s1.heap.objs.size).Ok := by
    refine ⟨I4.ok.mod, S.kind, I4.ok.glob, rfl, Nat.le_refl _, fun y z c e _ => (by cases e), fun y hy => ?_, fun y c _ e => (by cases e), fun _ => hr.hd, envs_loop I4.ok.frames, .inr ⟨rfl, rfl⟩, fun b hb => ?_, fun b o e => I4.bs b o e, Nat.le_trans I4.ok.bsz I4.sz, fun b o e hb => ?_, fun b hb => ?_, I4.stack, I4.stkFree⟩
    · have hy' : scope.names.lookup y = some .cell ∨ scope.names.lookup y = some .free := hy
      rcases hy' with z | z
      · exact absurd rfl (S.cell _ (PySem.mem_of_lookup z))
      · exact absurd rfl (S.free _ (PySem.mem_of_lookup z))
    · rw [List.mem_singleton.mp hb]
      exact ⟨Nat.ne_of_lt sz3, fun y c e => (by cases e)⟩
    · rw [List.mem_singleton.mp hb] at e
      exact absurd (Heap.lt_size (I1.bk _ _ e)) (Nat.lt_irrefl _)
    · rw [List.mem_singleton.mp hb]
      exact nst _ (Nat.le_refl _)
  refine ⟨gxOf X x { s1 with heap := h3, gens := s1.gens, drawn := s1.drawn, toks := n3 } (upd H1 P (.tbl (tb ++ more))) (genEnv scope [] h3.objs.size code builtinsNs X.env)
      (X.A.in1.in1.over (.compLoop (.GeneratorExp elt [⟨.Name x px, iter, [], 0⟩] scope gpos) 0 (.ref s1.heap.objs.size) .none (genEnv scope [] h3.objs.size code builtinsNs X.env)) []) s1.heap.objs.size, s1.heap.objs.size, t, rfl, rfl,
    ⟨_, Array.getElem?_push_size .., rfl, seg_allStart (Aw := X.A.in1.in1) hr.hd rfl rfl S rfl rfl (by show _ ∈ [_]; simp) haI hIt rfl rfl (hel _ _ _ _ _ (room_loop hr)) T2 god ⟨[none, none], it0, rfl, rfl, itd.1, itd.2, ?_⟩ hrd⟩, fun b σ' H' s' J q => ⟨H', I4.call' (ch := [s1.heap.objs.size]) J.os J.base J.hok J.bare fun b hb => ?_, q⟩⟩
  · refine ⟨KY, rfl, allBare_setGen (AllBare.push I1.bare rfl) rfl, Un.kept k6, ⟨_, hns.push _, fun i y v _ h2 _ => ?_⟩, fun y c e => (by cases e), I4.hok.fresh (Nat.le_refl _), fun y c e => (by cases e), fun p hp => ?_, I4.hok.kept k6, rfl⟩
    · match i, h2 with
      | 0, h2 => cases h2
      | 1, h2 => cases h2
      | n + 2, h2 => cases h2
    · rcases List.mem_cons.mp (show p ∈ [(h5.objs.size, go), (s1.heap.objs.size, it0)] from hp) with rfl | hp
      · exact ⟨hga, I4.hok.fresh (show h3.objs.size ≤ h5.objs.size by omega), (by show h5.objs.size ≠ h3.objs.size; omega), nst _ (show s1.heap.objs.size ≤ h5.objs.size by omega), god⟩
      · rw [List.mem_singleton] at hp
        subst hp
        exact ⟨k6 _ _ here3, H2t, Nat.ne_of_lt sz3, nst _ (Nat.le_refl _), fun v q => by rw [itd.2] at q; cases q⟩
  · rw [List.mem_singleton.mp hb]
    refine ⟨.inr I1.sz, Nat.ne_of_gt I1.lt, fun y c e z => ?_, fun p hp z => ?_⟩
    · obtain ⟨v, o, e2, _⟩ := I1.cell y c e
      have := Heap.lt_size e2
      rw [z] at this
      exact Nat.lt_irrefl _ this
    · have := Heap.lt_size (I1.pin p hp).1
      rw [z] at this
      exact Nat.lt_irrefl _ this
end
section
variable {X : Cx}
/-- all(e for x in t), t a tuple: the def's table may have grown when the first is asked -/
def tAllT (K : PySem.W.Frag) (P : Addr) (te ti : TE) : TE := fun σ H Q => ti σ H fun v H1 =>
  ∃ (t : Addr) (xs : List V), v = .ref t ∧ SqT K H1 t xs ∧ GxR.TabG H1 P ∧ ∀ H2, GxR.Tabbed P H1 H2 → rdAll te xs H2 fun b H' => Q (.bl b) H'
theorem pe_allT {c P : Addr} {elt iter : Expr} {x : Str} {px p pos gpos : Pos} {scope : Scope} {te ti : TE} {k : Nat}
    (hr : Room (k + 1) X.A) (hg : Gl X "all") (hm : X.mg "all" = none) (TB : GxR.TabB X.base X.mg c P) (hcode : X.env.code = .ref c) (S : OneN scope x) (hi : PE X iter ti)
    (hel : ∀ (s : Shared) (H : Hp) (C : Addr) (code : Value) (I : Addr), Room k (X.A.in1.in1.over (.compLoop (.GeneratorExp elt [⟨.Name x px, iter, [], 0⟩] scope gpos) 0 (.ref I) .none (genEnv scope [] C code builtinsNs X.env)) []) →
      PE (gxOf X x s H (genEnv scope [] C code builtinsNs X.env) (X.A.in1.in1.over (.compLoop (.GeneratorExp elt [⟨.Name x px, iter, [], 0⟩] scope gpos) 0 (.ref I) .none (genEnv scope [] C code builtinsNs X.env)) []) I) elt te)
    (hs : ∀ v, genFold iter X.env v = pure v) (hb : bootBuiltins "all" = some (.builtin "all") := by decide +kernel)
    (he : starEach [.GeneratorExp elt [⟨.Name x px, iter, [], 0⟩] scope gpos] X.env = (false, eval (.GeneratorExp elt [⟨.Name x px, iter, [], 0⟩] scope gpos) X.env) :: starEach [] X.env := by rfl) :
    PE X (.Call (.Name "all" p) [.GeneratorExp elt [⟨.Name x px, iter, [], 0⟩] scope gpos] [] pos) (tAllT X.K P te ti) := by
  constructor
  intro pins s σ H Q I want
  have hroom : X.A.depth < recursionLimit := by
    have := hr.dp
    omega
  apply wpAny_Call_Name_kw (ld_blt I hg hm hb ?_)
  apply PyProof.Rows.callWith_builtin1 ?_ he (by rfl)
  rw [he]
  show wpAny _ _ (spliced ((false, eval (.GeneratorExp elt [⟨.Name x px, iter, [], 0⟩] scope gpos) X.env) :: backTo pos (starEach [] X.env))) _ _ s
  apply Calls.spliced_cons (gen_tup (R := fun xs H2 => rdAll te xs H2 fun b H' => Q (.bl b) H') hr TB hcode S hi hel hs I want ?_)
  intro xs H2 a s5 k5 ready
  obtain ⟨go, g, GO, ha, lim, _, fin⟩ := ready
  obtain ⟨Y, I', t, eP, eW, hgo, back⟩ := fin _ k5
  apply Calls.spliced_nil
  apply call_function_tree F.kind_all F.plain_all F.entry_all (F.args_all1 _)
  unfold Builtin.«all»
  refine wpAny_bind (m := oneArg "all" _) (wpAny_pure ?_)
  refine wpAny_bind (wpAny_pyIter_gen (GO.at ha) ?_)
  refine wpAny_pure ⟨plainId_quiet F.plain_all_loop _, ?_⟩
  have key := all_loop (Y := Y) (A := X.A) (R := fun r s' => match r with | .ok (.ret v) => EP X pins σ Q v s' | .ok _ => False | .error e => X.xe e s') hr.hd hroom GO (fun b σ' H' s' J q => by
    obtain ⟨H'', J2, q2⟩ := back b σ' H' s' J q
    exact ⟨.bl b, H'', J2, rfl, q2⟩) xs.length s5 ha lim hgo
  rw [eP, eW] at key
  exact key
end
/-- for x in (a if c else b) -/
def iIf (tc : TT) (wa wb : TI) : TI := fun σ H R => tc σ H fun b H1 => if b = true then wa σ H1 R else wb σ H1 R
theorem pi_if {X : Cx} {tg c a b : Expr} {pos : Pos} {tc : TT} {wa wb : TI} (hc : PT X c tc) (ha : PI X tg a wa) (hb : PI X tg b wb) : PI X tg (.IfExp c a b pos) (iIf tc wa wb) := by
  constructor
  intro pins s σ H R I h
  apply wpAny_IfExp
  apply thn (hc.run pins s σ H _ I h)
  rintro d s1 ⟨H1, I1, q1⟩
  cases d with
  | true => exact ha.run pins s1 σ H1 R I1 q1
  | false => exact hb.run pins s1 σ H1 R I1 q1
end Jf
set_option Elab.async false
set_option linter.all false
set_option maxRecDepth 100000
set_option maxHeartbeats 4000000
/-! ### enumerate(t) of a tuple -/
namespace PySem
open AutoSeq1 (wpAny_loadPart')
section
variable {prog : Program} {w : World} {A : Around} {E : Value → Shared → Prop} {s : Shared} {e it t : Addr} {i : Nat} {items : Array Value} {x old : Value}
/-- the iterator within hands on an item -/
theorem jf_next {Q : Value → Shared → Prop} (a : s.heap.IsTupleIter it t i) (b : s.heap.IsTuple t items) (hx : items[i]? = some x) (k : ∀ h', h'.IsTupleIter it t (i + 1) → Heap.SameBut it s.heap h' → Q x { s with heap := h' }) :
    wpAny (model prog w) A (Builtin.SmallTypes.nextOf (.ref it)) Q E s := by
  obtain ⟨u, e1, e2, e3⟩ := id a
  obtain ⟨v, f1, _, n, f2⟩ := id b
  have S := F.slot_tuple_iterator_next
  have no : ¬ ((Value.ref t == Value.none) = true) := Bool.false_ne_true
  unfold Builtin.SmallTypes.nextOf
  refine wpAny_bind (wpAny_callSpecial?_slot (name := Str.ofString "__next__") a.typeIs S (wpAny_call_entry S a.typeIs F.entry_tuple_iterator_next ?_ (F.args_tuple_iterator_next_1 _)))
  refine wpAny_bind (m := field (.ref it) 0) (wpAny_field e1 e3 (x := .ref t) rfl ?_)
  dsimp only
  rw [if_neg no]
  refine wpAny_bind (m := field (.ref it) 1) (wpAny_field e1 e3 (x := .int i 0) rfl (wpAny_bind (m := seqItems? (.ref t)) (wpAny_seqItems f1 f2 ?_)))
  simp only [Int.toNat_natCast, hx]
  refine wpAny_bind (wpAny_setField e1 e3 (by simp) (wpAny_pure ⟨x, rfl, wpAny_pure (k _ ⟨_, Heap.get?_update_self _ e1 (Obj.isFreed_of_fields (Obj.data_mapFields e3 _)), (Obj.cls_mapFields ..).trans e2, ?_⟩ (Heap.SameBut.update ..))⟩))
  rw [Obj.data_mapFields e3]
  simp [rawInt]
/-- .. or has none -/
theorem jf_none {Q : Value → Shared → Prop} (hh : A.handled = none) (a : s.heap.IsTupleIter it t i) (b : s.heap.IsTuple t items) (hx : items[i]? = none)
    (k : ∀ h' y, Heap.ExtBut it s.heap h' → (∃ o, h'.get? y = some o ∧ o.cls = .type "StopIteration") → E (.ref y) { s with heap := h' }) : wpAny (model prog w) A (Builtin.SmallTypes.nextOf (.ref it)) Q E s := by
  obtain ⟨u, e1, e2, e3⟩ := id a
  obtain ⟨v, f1, _, n, f2⟩ := id b
  have S := F.slot_tuple_iterator_next
  have no : ¬ ((Value.ref t == Value.none) = true) := Bool.false_ne_true
  unfold Builtin.SmallTypes.nextOf
  refine wpAny_bind (wpAny_callSpecial?_slot (name := Str.ofString "__next__") a.typeIs S (wpAny_call_entry S a.typeIs F.entry_tuple_iterator_next ?_ (F.args_tuple_iterator_next_1 _)))
  refine wpAny_bind (m := field (.ref it) 0) (wpAny_field e1 e3 (x := .ref t) rfl ?_)
  dsimp only
  rw [if_neg no]
  refine wpAny_bind (m := field (.ref it) 1) (wpAny_field e1 e3 (x := .int i 0) rfl (wpAny_bind (m := seqItems? (.ref t)) (wpAny_seqItems f1 f2 ?_)))
  simp only [Int.toNat_natCast, hx]
  refine wpAny_bind (wpAny_rule (wpAny_bind (wpAny_setField e1 e3 (by simp) (wpAny_bind (m := newExc (.type "StopIteration") []) ?_))))
  simp only [newExc, newTuple]
  refine wpAny_bind (wpAny_newObj_type (wpAny_bind (m := firstArgMember _ _) (wpAny_of_eq (a := Value.none) (by first | rfl | (simp only [firstArgMember]; rfl)) (wpAny_newObj_type ?_ (by size_fits)))) (by size_fits))
  simp only [raiseNew]
  refine wpAny_bind (wpAny_handled ?_)
  first | rw [show A.in1.handled = none from hh] | rw [hh]
  exact wpAny_bind (wpAny_pure (wpAny_throw (k _ _ (((Heap.SameBut.update ..).extBut.push _).push _) ⟨_, Heap.get?_push_size _ rfl, rfl⟩)))
/-- enumerate's turn, whatever stands within: what it needs of the turn within is told by hn -/
theorem jf_enum {P : Heap → Prop} {Q : Value → Shared → Prop} (he : IsEnum s.heap e it i old) (hne : e ≠ it)
    (hn : ∀ {B : Around} {R : Value → Shared → Prop} {Ex : Value → Shared → Prop}, (∀ h', P h' → Heap.SameBut it s.heap h' → R x { s with heap := h' }) → wpAny (model prog w) B (Builtin.SmallTypes.nextOf (.ref it)) R Ex s)
    (hP : ∀ h h', P h → (∀ b o, b ≠ e → h.get? b = some o → h'.get? b = some o) → P h')
    (k : ∀ h', IsEnumOut h' e it ((i : Int) + 1) x s.heap.objs.size → P h' → h'.get? s.heap.objs.size = some { cls := .type "tuple", data := .seq #[.int i s.toks, x] } → h'.objs.size = s.heap.objs.size + 1 →
      (∀ b o, b ≠ e → b ≠ it → s.heap.get? b = some o → h'.get? b = some o) → Q (.ref s.heap.objs.size) { s with heap := h', toks := s.toks + 1 }) :
    wpAny (model prog w) A (Builtin.«enumerate.__next__» ⟨[.ref e], []⟩) (fun f s' => ∃ v, f = .done (.ret v) ∧ Q v s') E s := by
  obtain ⟨hp, g, d, tk, os⟩ := s
  have lt : e < hp.objs.size := Heap.lt_size he
  refine wpAny_bind (m := field (.ref e) 2) (wpAny_field he rfl (x := .ref it) rfl (wpAny_bind (hn fun g1 p1 (b1 : Heap.SameBut it hp g1) => ?_)))
  have q1 : IsEnum g1 e it i old := (b1.2 e hne).trans he
  refine wpAny_bind (m := field (.ref e) 3) (wpAny_field q1 rfl (x := rawInt i) rfl (wpAny_bind (m := field (.ref e) 4) (wpAny_field q1 rfl (x := .none) rfl (wpAny_bind (m := mkInt i) (wpAny_mkInt ?_)))))
  refine wpAny_bind (m := setField (.ref e) 3 (rawInt ((i : Int) + 1))) (wpAny_setField_rec q1 (by simp) fun g2 (q2 : IsEnum g2 e it ((i : Int) + 1) old) (b2 : Heap.SameBut e g1 g2) => ?_)
  refine wpAny_bind (m := setField (.ref e) 4 .none) (wpAny_setField_rec q2 (by simp) fun g3 (q3 : IsEnum g3 e it ((i : Int) + 1) old) (b3 : Heap.SameBut e g2 g3) => ?_)
  refine wpAny_bind (m := newTuple [.int i tk, x]) (wpAny_newTuple ?_)
  have z3 : g3.objs.size = hp.objs.size := by rw [b3.1, b2.1, b1.1]
  have b13 : ∀ b o, b ≠ e → g1.get? b = some o → g3.get? b = some o := fun b o n y => b3.extBut b o n (b2.extBut b o n y)
  generalize hg : g3.push { cls := .type "tuple", data := .seq #[.int i tk, x] } = g4
  have old4 : ∀ b o, g3.get? b = some o → g4.get? b = some o := fun b o y => hg ▸ Heap.get?_push_of_some _ y
  have tup4 : g4.get? hp.objs.size = some { cls := .type "tuple", data := .seq #[.int i tk, x] } := by
    rw [← hg, ← z3]
    exact Heap.get?_push_size _ rfl
  have z4 : g4.objs.size = hp.objs.size + 1 := by rw [← hg, Heap.size_push, z3]
  have q4 : IsEnum g4 e it ((i : Int) + 1) old := old4 _ _ q3
  rw [z3]
  refine wpAny_bind (m := Builtin.SmallTypes.ownedTupleIsFree (.ref e)) ?_
  unfold Builtin.SmallTypes.ownedTupleIsFree
  refine wpAny_bind (wpAny_field q4 rfl (x := .none) rfl (wpAny_pure ?_))
  simp only [if_true]
  refine wpAny_bind (wpAny_rule (wpAny_bind (wpAny_field q4 rfl (x := old) rfl (wpAny_bind (wpAny_setField_rec q4 (by simp) fun g5 (q5 : IsEnum g5 e it ((i : Int) + 1) x) (b5 : Heap.SameBut e g4 g5) => ?_)))))
  refine wpAny_bind (m := Builtin.SmallTypes.ownedTupleHandOut (.ref e) (.ref hp.objs.size)) ?_
  unfold Builtin.SmallTypes.ownedTupleHandOut
  refine wpAny_bind (wpAny_setField_rec q5 (by simp) fun g6 (q6 : IsEnumOut g6 e it ((i : Int) + 1) x hp.objs.size) (b6 : Heap.SameBut e g5 g6) => ?_)
  refine wpAny_setField_rec q6 (by simp) fun g7 (q7 : IsEnumOut g7 e it ((i : Int) + 1) x hp.objs.size) (b7 : Heap.SameBut e g6 g7) => ?_
  have b47 : ∀ b o, b ≠ e → g4.get? b = some o → g7.get? b = some o := fun b o n y => b7.extBut b o n (b6.extBut b o n (b5.extBut b o n y))
  refine wpAny_bind (wpAny_letGo (wpAny_pure ⟨_, rfl, k g7 q7 (hP g1 g7 p1 fun b o n y => b47 b o n (old4 b o (b13 b o n y))) (b47 _ _ (Nat.ne_of_gt lt) tup4) ?_ fun b o n m y => b47 b o n (old4 b o (b13 b o n (b1.extBut b o m y)))⟩))
  rw [b7.1, b6.1, b5.1, z4]
theorem jf_enumT {Q : Option Value → Shared → Prop} (he : IsEnum s.heap e it i old) (a : s.heap.IsTupleIter it t i) (b : s.heap.IsTuple t items) (hx : items[i]? = some x) (hne : e ≠ it)
    (k : ∀ h', IsEnumOut h' e it ((i : Int) + 1) x s.heap.objs.size → h'.IsTupleIter it t (i + 1) → h'.get? s.heap.objs.size = some { cls := .type "tuple", data := .seq #[.int i s.toks, x] } → h'.objs.size = s.heap.objs.size + 1 →
      (∀ b o, b ≠ e → b ≠ it → s.heap.get? b = some o → h'.get? b = some o) → Q (some (.ref s.heap.objs.size)) { s with heap := h', toks := s.toks + 1 }) : wpAny (model prog w) A (pyNext (.ref e)) Q E s := by
  have T : s.TypeIs (.ref e) "enumerate" := ⟨_, he, rfl⟩
  unfold pyNext
  refine wpAny_bind (wpAny_attempt (wpAny_callSpecial?_slot (name := Str.ofString "__next__") T F.slot_enumerate_next (wpAny_call_entry F.slot_enumerate_next T F.entry_enumerate_next
    (jf_enum (P := fun h => h.IsTupleIter it t (i + 1)) he hne (fun q => jf_next a b hx q) (fun h h' p y => ?_) fun h' c1 c2 c3 c4 c5 => wpAny_pure (k h' c1 c2 c3 c4 c5)) (F.args_enumerate_next_1 _))))
  obtain ⟨o, h1, h2⟩ := p
  exact ⟨o, y it o hne.symm h1, h2⟩
theorem jf_enumE {Q : Option Value → Shared → Prop} (hh : A.handled = none) (he : IsEnum s.heap e it i old) (a : s.heap.IsTupleIter it t i) (b : s.heap.IsTuple t items) (hx : items[i]? = none) (k : ∀ h', Heap.ExtBut it s.heap h' → Q none { s with heap := h' }) :
    wpAny (model prog w) A (pyNext (.ref e)) Q E s := by
  have T : s.TypeIs (.ref e) "enumerate" := ⟨_, he, rfl⟩
  unfold pyNext
  refine wpAny_bind (wpAny_attempt (wpAny_callSpecial?_slot (name := Str.ofString "__next__") T F.slot_enumerate_next (wpAny_call_entry F.slot_enumerate_next T F.entry_enumerate_next
    (wpAny_bind (m := field (.ref e) 2) (wpAny_field he rfl (x := .ref it) rfl (wpAny_bind (jf_none hh a b hx fun h' y g ⟨o, g1, g2⟩ => ?_)))) (F.args_enumerate_next_1 _))))
  exact wpAny_bind (wpAny_isInstance (T := "StopIteration") (b := true) ⟨o, g1, g2⟩ isSubtype_stop (wpAny_pure (k _ g)))
end
/-- enumerate(t) -/
theorem jf_newT (t : Addr) (o : Obj) (items : Array Value) (n : Nat) (hc : o.cls = .type "tuple") (hd : o.data = .seq items n) :
    Meets (Builtin.«enumerate.__new__» ⟨[.type "enumerate", .ref t], []⟩) (fun _ R s => s.heap.get? t = some o ∧
      R (.ok (.ret (.ref (s.heap.push { cls := .type "tuple_iterator", data := .fields #[.ref t, .int 0 0] }).objs.size)))
        { s with heap := (s.heap.push { cls := .type "tuple_iterator", data := .fields #[.ref t, .int 0 0] }).push { cls := .type "enumerate", data := .fields #[.none, .bool false, .ref s.heap.objs.size, rawInt 0, .none, .none] } }) :=
  .of_wp fun prog w A R s h => by
    obtain ⟨hp, g, dr, tk, os⟩ := s
    obtain ⟨ht, h⟩ := h
    have sub := sub_enumerate
    have hT : Heap.IsTuple (Shared.heap ⟨hp, g, dr, tk, os⟩) t items := ⟨_, ht, hc, n, hd⟩
    wp_walk using wpAny_loadPart' ht
    refine wpAny_stack_any fun st => wpAny_pure ?_
    split
    · rename_i c _ _ _ _ _
      cases (c == Value.type "enumerate") <;>
      · wp_walk using wpAny_loadPart' ht, wpAny_pyIter_tuple hT
        exact ⟨_, rfl, h⟩
    · wp_walk using wpAny_loadPart' ht, wpAny_pyIter_tuple hT
      exact ⟨_, rfl, h⟩
theorem jf_callT {prog : Program} {w : World} {A : Around} {E : Value → Shared → Prop} {s : Shared} {t : Addr} {items : Array Value} {Q : Value → Shared → Prop} (hT : s.heap.IsTuple t items)
    (h : ∀ h', IsEnum h' (s.heap.objs.size + 1) s.heap.objs.size 0 .none → h'.IsTupleIter s.heap.objs.size t 0 → h'.objs.size = s.heap.objs.size + 2 → (∀ b o, s.heap.get? b = some o → h'.get? b = some o) → Q (.ref (s.heap.objs.size + 1)) { s with heap := h' }) :
    wpAny (model prog w) A (call (.type "enumerate") [.ref t]) Q E s := by
  obtain ⟨o, ho, hc, n, hd⟩ := hT
  refine callType_new F.called_enumerate (by decide) (F.typeCall_enumerate_1 _) (F.newCall_enumerate_1 _) (fun obj => F.args_object_init_2 obj _) F.entry_enumerate_new (jf_newT t o items n hc hd) ⟨ho, ?_⟩
  have z : (s.heap.push { cls := .type "tuple_iterator", data := .fields #[.ref t, .int 0 0] }).objs.size = s.heap.objs.size + 1 := Heap.size_push ..
  show _ ∧ _
  rw [z]
  have he := Heap.get?_push_size (s.heap.push { cls := .type "tuple_iterator", data := .fields #[.ref t, .int 0 0] }) (o := { cls := .type "enumerate", data := .fields #[.none, .bool false, .ref s.heap.objs.size, rawInt 0, .none, .none] }) rfl
  rw [z] at he
  exact ⟨⟨_, he, rfl⟩, h _ he ⟨_, Heap.get?_push_of_some _ (Heap.get?_push_size _ rfl), rfl, rfl⟩ (by rw [Heap.size_push, z]) fun b o y => Heap.get?_push_of_some _ (Heap.get?_push_of_some _ y)⟩
end PySem
namespace Jf
open PySem PySem.Spec PyProof.Rows L2 Evl
/-- the tuple at a, each item in a new pair with its number -/
def IteT (K : PySem.W.Frag) (a : Addr) : It :=
  ⟨fun i H => ∃ (xs : List V) (x : V), SqT K H a xs ∧ xs[i]? = some x, fun i H v H' => ∃ T x, v = .ref T ∧ H T = none ∧ H' = upd H T (.tup [.int (i : Nat), x]) ∧ ∀ xs, SqT K H a xs → xs[i]? = some x, fun i H => ∃ xs : List V, SqT K H a xs ∧ xs.length ≤ i⟩
theorem turn_enumT {P : Program} {w : World} {K : PySem.W.Frag} {elts : List Expr} {kk : Nat} {tpos : Pos} (a e it : Addr) :
    Turn P w K (.Tuple elts kk tpos) (IteT K a) [e, it] e (fun i h => (∃ old, IsEnum h e it ((i : Nat) : Int) old) ∧ h.IsTupleIter it a i ∧ e ≠ it) where
  mem := by simp
  obj := fun i h st b hb => by
    obtain ⟨⟨old, he⟩, ⟨o, ho, _, hd⟩, _⟩ := st
    rcases List.mem_cons.mp hb with rfl | hb
    · exact ⟨_, he, fun v q => nomatch q⟩
    · rw [List.mem_singleton.mp hb]
      exact ⟨o, ho, fun v q => by rw [hd] at q; cases q⟩
  keep := fun i h h' st k => by
    obtain ⟨⟨old, he⟩, ⟨o, ho, hr⟩, ne⟩ := st
    exact ⟨⟨old, k e (by simp) _ he⟩, ⟨o, k it (by simp) o ho, hr⟩, ne⟩
  item := by
    intro X hP hw hK hc i pins s σ H E I hf st hg
    subst hP hw hK
    obtain ⟨⟨old, he⟩, hit, ne⟩ := st
    obtain ⟨xs, x, hq, hx⟩ := hg
    obtain ⟨its, rv, tp, _⟩ := I.tuple hq
    obtain ⟨u, hu, ru⟩ := rv.get hx
    have le : e < s.heap.objs.size := Heap.lt_size he
    have li : it < s.heap.objs.size := by
      obtain ⟨_, q, _⟩ := hit
      exact Heap.lt_size q
    refine jf_enumT he hit tp (x := u) (by simpa using hu) ne fun h1 c1 c2 c3 c4 c5 => ⟨_, rfl, wpAny_letOwnedTupleGo_enum (s := { s with heap := h1, toks := s.toks + 1 }) c1 fun h2 d1 d2 => ?_⟩
    have at2 : h2.get? s.heap.objs.size = some { cls := .type "tuple", data := .seq #[.int i s.toks, u] } := (d2.2 _ (Nat.ne_of_gt le)).trans c3
    have I2 : Inv X pins σ (upd H s.heap.objs.size (.tup [.int (i : Nat), x])) { s with heap := h2, toks := s.toks + 1 } := by
      refine I.turnedNew (ch := [e, it]) (fun b o hb q => ?_) hf (Nat.le_refl _) ⟨by show 2 ≤ sizeLine; decide, [.int i s.toks, u], .cons ⟨_, rfl⟩ (.cons ru .nil), ⟨_, at2, rfl, _, rfl⟩⟩
      simp only [List.mem_cons, List.not_mem_nil, or_false, not_or] at hb
      exact (d2.2 b hb.1).trans (c5 b o hb.1 hb.2 q)
    refine ⟨.ref s.heap.objs.size, _, I2, rfl, ⟨_, x, rfl, I.hok.fresh (Nat.le_refl _), rfl, fun ys hy => by rw [I.tuple_inj hy hq]; exact hx⟩, ⟨⟨u, ?_⟩, ?_, ne⟩, fun b hb => ?_⟩
    · rw [show ((i + 1 : Nat) : Int) = (i : Int) + 1 by omega]
      exact d1
    · obtain ⟨o, g1, g2⟩ := c2
      exact ⟨o, (d2.2 it ne.symm).trans g1, g2⟩
    · have lb : b < s.heap.objs.size := by
        rcases List.mem_cons.mp hb with rfl | hb
        · exact le
        · rw [List.mem_singleton.mp hb]
          exact li
      rw [upd_ne (Nat.ne_of_lt lb)]
      exact (hf b hb).1
  done := by
    intro X hP hw hK hc i pins s σ H E I hf st hg
    subst hP hw hK
    obtain ⟨⟨old, he⟩, hit, _⟩ := st
    obtain ⟨xs, hq, hx⟩ := hg
    obtain ⟨its, rv, tp, _⟩ := I.tuple hq
    obtain ⟨f0, f1, f2, f3, f4, f5⟩ := hf it (by simp)
    have := rv.length
    exact jf_enumE (I.ok.hd hc) he hit tp (by simp; omega) fun h' g => ⟨rfl, I.turned (t' := s.toks) (fun b o hb q => g b o hb q) f0 f1 f3 f4 f5⟩
  self := fun A i s Q E st h => by
    obtain ⟨⟨_, he⟩, _⟩ := st
    exact wpAny_pyIter_enum he h
def iEnumT (K : PySem.W.Frag) (ta : TA) : TI := fun σ H R => ta σ H fun vs H1 => ∃ a xs, vs = [.ref a] ∧ SqT K H1 a xs ∧ R (IteT K a) H1
theorem pi_enumT {X : Cx} {e : Expr} {ta : TA} {p pos tpos : Pos} {elts : List Expr} {kk : Nat} (hg : Gl X "enumerate") (hm : X.mg "enumerate" = none) (ha : PA X [e] ta) (hs : starEach [e] X.env = [(false, eval e X.env)] := by rfl) :
    PI X (.Tuple elts kk tpos) (.Call (.Name "enumerate" p) [e] [] pos) (iEnumT X.K ta) := by
  refine ⟨fun pins s σ H R I h => ?_⟩
  refine Call_ (ld_blt I hg hm boot_enumerate (PyProof.Rows.callWith_type1 (thn (ha.run pos pins s σ H _ I h) fun us s1 ⟨vs, H1, I1, r1, a, xs, ex, hq, q⟩ => ?_) hs rfl))
  subst ex
  obtain ⟨u, rfl, ru⟩ := vals1 r1
  cases ru
  obtain ⟨its, _, tp, _⟩ := I1.tuple hq
  refine jf_callT tp fun h' c1 c2 c3 c4 => wpAny_pyIter_enum c1 ⟨s1.heap.objs.size + 1, [s1.heap.objs.size + 1, s1.heap.objs.size], _, _, H1, rfl, I1.kept (t' := s1.toks) c4, turn_enumT a (s1.heap.objs.size + 1) s1.heap.objs.size, ⟨⟨.none, c1⟩, c2, Nat.succ_ne_self _⟩, fun b hb => ?_, q⟩
  have hle : s1.heap.objs.size ≤ b := by
    rcases List.mem_cons.mp hb with rfl | hb
    · exact Nat.le_succ _
    · rw [List.mem_singleton.mp hb]
      exact Nat.le_refl _
  exact I1.fpOk hle (I1.hok.fresh hle)
end Jf
set_option Elab.async false
set_option linter.all false
set_option maxRecDepth 100000
set_option maxHeartbeats 4000000
namespace Jf
open PySem PySem.Spec PyProof.Rows L2 Evl GxR GenW
/-! ### all(e for .. in an iterable of any kind that the layer walks), e of any kind that it reads -/
/-- the inner scope: its names, nothing captured -/
structure ManyN (scope : Scope) (xs : List Str) : Prop where
  kind : scope.kind = .function
  co : scope.isCoroutine = false
  cell : ∀ y ∈ scope.names, y.2 ≠ .cell
  dot : scope.names.lookup (".0" : Str) = some NameKind.local
  free : ∀ y ∈ scope.names, y.2 ≠ .free
/-- the inner context: the callers' frames behind it, the walked objects free to turn -/
def gyOf (X : Cx) (xs : List Str) (s : Shared) (H : Hp) (cenv : Env) (B : Around) (fp : List Addr) : Cx where
  prog := X.prog
  w := X.w
  K := X.K
  mg := X.mg
  base := X.base
  A := B
  N := ".0" :: xs
  s_0 := s
  H_0 := H
  env := cenv
  outer := X.stack
  stack := cenv :: X.stack
  ex := fp
  fn := fun _ => true
  calm := true
  pn := []
  xe := fun _ _ => False
/-- the reading: from the left, till one says no -/
def rdAllI (g : TG) (te : TE) (J : It) (L : Nat) : Nat → Nat → Hp → (Bool → Hp → Prop) → Prop
  | 0, i, H, Q => J.stop i H ∧ Q true H
  | n + 1, i, H, Q => J.go i H ∧ ∀ x H1, J.yld i H x H1 → ∀ σ : L2.St, σ.length = L → σ[0]? = some none → g x σ H1 fun σ2 H2 => σ2.length = L ∧ σ2[0]? = some none ∧ te σ2 H2 fun r H3 => ∃ b, r = .bl b ∧ (b = true → rdAllI g te J L n (i + 1) H3 Q) ∧ (b = false → Q false H3)
/-- where the generator stands -/
def GInv2 (Y : Cx) (a : Addr) (go : Obj) (fp : List Addr) (tn : Nat → Heap → Prop) (L i : Nat) (H : Hp) (s : Shared) : Prop :=
  ∃ (σ : L2.St) (ps : List (Addr × Obj)), σ.length = L ∧ σ[0]? = some none ∧ ps.map (·.1) = fp ∧ tn i s.heap ∧ Inv Y ((a, go) :: ps) σ H s
def gProt2 (Y : Cx) (a : Addr) (go : Obj) (fp : List Addr) (tn : Nat → Heap → Prop) (L : Nat) (Q : Bool → Hp → Prop) : Protocol := fun _ _ v s kap =>
  ∃ b i H, v = .bool b ∧ GInv2 Y a go fp tn L i H s ∧ (b = false → Q false H) ∧ (b = true → ∀ s', s'.os = s.os → AllBare s'.gens → s'.heap = s.heap → kap (.send .none) s')
section
variable {Y : Cx} {a it : Addr} {go : Obj} {fp : List Addr} {tn : Nat → Heap → Prop} {L i : Nat} {H : Hp} {s s' : Shared}
theorem GInv2.woke (h : GInv2 Y a go fp tn L i H s) (o : s'.os = s.os) (g : AllBare s'.gens) (e : s'.heap = s.heap) : GInv2 Y a go fp tn L i H s' := by
  obtain ⟨σ, ps, l, z, c, d, J⟩ := h
  refine ⟨σ, ps, l, z, c, by rw [e]; exact d, J.call' (ch := []) o ?_ ?_ g fun b z => by simp at z⟩
  · rw [e]
    exact Un.kept fun _ _ q => q
  · rw [e]
    exact J.hok
theorem objs_of {h : Heap} : ∀ {fp : List Addr}, (∀ b ∈ fp, ∃ o, h.get? b = some o ∧ ∀ v, o.data ≠ .cell v) → ∃ ps : List (Addr × Obj), ps.map (·.1) = fp ∧ ∀ p ∈ ps, h.get? p.1 = some p.2 ∧ ∀ v, p.2.data ≠ .cell v
  | [], _ => ⟨[], rfl, fun _ z => nomatch z⟩
  | b :: fp, q => by
    obtain ⟨o, h1, h2⟩ := q b List.mem_cons_self
    obtain ⟨ps, h3, h4⟩ := objs_of fun c hc => q c (List.mem_cons_of_mem _ hc)
    refine ⟨(b, o) :: ps, by rw [List.map_cons, h3], fun p hp => ?_⟩
    rcases List.mem_cons.mp hp with rfl | hp
    · exact ⟨h1, h2⟩
    · exact h4 p hp
end
section
variable {Y : Cx} {Aw : Around} {elt iter tg : Expr} {pos : Pos} {scope : Scope} {a it : Addr} {go : Obj} {fp : List Addr} {tn : Nat → Heap → Prop} {J : It} {L : Nat} {te : TE} {g : TG} {Q : Bool → Hp → Prop}
theorem seg_itLoop (hA : Aw.handled = none) (hY : Y.A = Aw.over (.compLoop (.GeneratorExp elt [⟨tg, iter, [], 0⟩] scope pos) 0 (.ref it) .none Y.env) []) (hco : Y.env.scope.isCoroutine = false) (hcl : Y.env.cells = []) (hex : ∀ b ∈ fp, b ∈ Y.ex) (ha : a ∉ fp) (hpn : Y.pn = [])
    (hcalm : Y.calm = true) (hxe : Y.xe = fun _ _ => False) (T : Turn Y.prog Y.w Y.K tg J fp it tn) (hg : PG Y tg g) (hel : PE Y elt te) :
    ∀ (n i : Nat) (H : Hp) (s₀ s : Shared), GInv2 Y a go fp tn L i H s → rdAllI g te J L n i H Q →
      Seg (model Y.prog Y.w) Aw (gEnd Y Q) (gProt2 Y a go fp tn L Q) n s₀ (.compLoop (.GeneratorExp elt [⟨tg, iter, [], 0⟩] scope pos) 0 (.ref it) .none Y.env)
        ((model Y.prog Y.w).den (.compLoop (.GeneratorExp elt [⟨tg, iter, [], 0⟩] scope pos) 0 (.ref it) .none Y.env)) [] s := by
  have free : ∀ {σ : L2.St} {ps : List (Addr × Obj)} {i : Nat} {H : Hp} {s : Shared}, ps.map (·.1) = fp → Inv Y ((a, go) :: ps) σ H s → Inv Y [(a, go)] σ H s ∧ ∀ b ∈ fp, FpOk Y [(a, go)] H b := fun {σ ps i H s} hm I => by
    refine ⟨I.pins_of fun p hp => I.pin p (List.mem_append_right _ (by
      rw [List.mem_singleton] at hp
      rw [hp]
      exact List.mem_cons_self)), fun b hb => ?_⟩
    rw [← hm] at hb
    obtain ⟨p, hp, rfl⟩ := List.mem_map.mp hb
    have q := I.pin p (List.mem_append_right _ (List.mem_cons_of_mem _ hp))
    refine ⟨q.2.1, q.2.2.1, q.2.2.2.1, .inl (hex _ (hm ▸ List.mem_map.mpr ⟨p, hp, rfl⟩)), (fun x c e => by rw [hcl] at e; cases e), fun r hr z => ?_⟩
    rw [hpn, List.nil_append, List.mem_singleton] at hr
    subst hr
    exact ha (by rw [← hm]; exact List.mem_map.mpr ⟨p, hp, z.symm⟩)
  intro n
  induction n with
  | zero =>
    intro i H s₀ s hG hr
    obtain ⟨σ, ps, l, z, hm, ht, I⟩ := hG
    obtain ⟨I1, hf⟩ := free (i := i) hm I
    show Seg _ Aw _ _ _ s₀ _ ((compTurn (.GeneratorExp elt [⟨tg, iter, [], 0⟩] scope pos) 0 (.ref it) .none Y.env).onRaise (leaving Y.env)) [] s
    rw [compTurn_gen, Sem.onRaise_eq_wrap]
    refine seg_bind_wrap (wpAny_standAt ?_)
    refine seg_bind_wrap ?_
    rw [← hY]
    refine wpAny_mono (T.done Y rfl rfl rfl hcalm i [(a, go)] s σ H (fun _ _ => False) I1 hf ht hr.1) ?_ fun _ _ x => x.elim
    rintro r s1 ⟨rfl, I2⟩
    exact seg_end (.ok .next) (.inl ⟨.inr rfl, σ, H, I2.pins_of fun p hp => by simp at hp, hr.2⟩)
  | succ n ih =>
    intro i H s₀ s hG hr
    obtain ⟨σ, ps, l, z, hm, ht, I⟩ := hG
    obtain ⟨I1, hf⟩ := free (i := i) hm I
    have pa := I1.pin (a, go) (List.mem_append_right _ List.mem_cons_self)
    show Seg _ Aw _ _ _ s₀ _ ((compTurn (.GeneratorExp elt [⟨tg, iter, [], 0⟩] scope pos) 0 (.ref it) .none Y.env).onRaise (leaving Y.env)) [] s
    rw [compTurn_gen, Sem.onRaise_eq_wrap]
    refine seg_bind_wrap (wpAny_standAt ?_)
    refine seg_bind_wrap ?_
    rw [← hY]
    refine wpAny_mono (T.item Y rfl rfl rfl hcalm i [(a, go)] s σ H (fun _ _ => False) I1 hf ht hr.1) ?_ fun _ _ x => x.elim
    rintro r s1 ⟨u, rfl, w1⟩
    refine seg_bind_wrap ?_
    rw [← hY]
    refine wpAny_mono w1 ?_ fun _ _ x => x.elim
    rintro _ s2 ⟨x, H1, I2, ru, hy, ht2, hnone⟩
    obtain ⟨ps2, hm2, ho2⟩ := objs_of (T.obj (i + 1) s2.heap ht2)
    have I3 : Inv Y ((a, go) :: ps2) σ H1 s2 := I2.pins_of fun p hp => by
      rcases List.mem_cons.mp hp with rfl | hp
      · exact I2.pin _ (List.mem_append_right _ List.mem_cons_self)
      · have hb : p.1 ∈ fp := hm2 ▸ List.mem_map.mpr ⟨p, hp, rfl⟩
        obtain ⟨_, f1, f2, _⟩ := hf _ hb
        exact ⟨(ho2 p hp).1, hnone _ hb, f1, f2, (ho2 p hp).2⟩
    refine seg_bind_wrap ?_
    rw [← hY]
    refine wpAny_mono (hg.run _ _ σ H1 x u _ I3 ru (hr.2 x H1 hy σ l z)) ?_ fun e s' hx => by rw [hxe] at hx; exact hx.elim
    rintro _ s3 ⟨σ3, H3, I4, l3, z3, q3⟩
    refine seg_bind_wrap ?_
    simp only [List.forIn_nil]
    refine wpAny_pure ?_
    simp only [if_true]
    have hyo : ∀ v, yieldOut Y.env v = yieldValue v := fun v => by simp only [yieldOut, hco, Bool.false_eq_true, if_false]
    simp only [hyo]
    rw [Sem.bind_eq_wrap', Sem.bind_eq_wrap', Sem.wrap_wrap, Sem.wrap_wrap]
    refine seg_wrap ?_
    rw [← hY]
    refine wpAny_mono (hel.run _ _ _ _ _ I4 q3) (fun y s4 h4 => ?_) fun e s' hx => by rw [hxe] at hx; exact hx.elim
    obtain ⟨r, H4, I5, rr, b, rfl, htr, hfa⟩ := h4
    obtain rfl : y = Value.bool b := rr
    have G4 : GInv2 Y a go fp tn L (i + 1) H4 s4 := by
      refine ⟨σ3, ps2, l3, z3, hm2, T.keep (i + 1) s2.heap s4.heap ht2 fun b hb o e => ?_, I5⟩
      rw [← hm2] at hb
      obtain ⟨p, hp, rfl⟩ := List.mem_map.mp hb
      rw [(ho2 p hp).1] at e
      cases e
      exact (I5.pin p (List.mem_append_right _ (List.mem_cons_of_mem _ hp))).1
    refine seg_at (seg_yield rfl rfl rfl ⟨b, i + 1, H4, rfl, G4, hfa, fun hb s' o g e => ?_⟩)
    exact seg_again rfl (ih (i + 1) H4 s' s' (G4.woke o g e) (htr hb))
theorem seg_itStart (hA : Aw.handled = none) (hY : Y.A = Aw.over (.compLoop (.GeneratorExp elt [⟨tg, iter, [], 0⟩] scope pos) 0 (.ref it) .none Y.env) []) (hco : Y.env.scope.isCoroutine = false) (hcl : Y.env.cells = []) (hex : ∀ b ∈ fp, b ∈ Y.ex) (ha : a ∉ fp) (hpn : Y.pn = [])
    (hcalm : Y.calm = true) (hxe : Y.xe = fun _ _ => False) (T : Turn Y.prog Y.w Y.K tg J fp it tn) (hg : PG Y tg g) (hel : PE Y elt te) {n : Nat} {H : Hp} {s₀ s : Shared} (hG : GInv2 Y a go fp tn L 0 H s) (hr : rdAllI g te J L n 0 H Q) :
    Seg (model Y.prog Y.w) Aw (gEnd Y Q) (gProt2 Y a go fp tn L Q) n s₀ (.compStart (.GeneratorExp elt [⟨tg, iter, [], 0⟩] scope pos) 0 (.ref it) .none Y.env)
      ((model Y.prog Y.w).den (.compStart (.GeneratorExp elt [⟨tg, iter, [], 0⟩] scope pos) 0 (.ref it) .none Y.env)) [] s := by
  have again : Seg (model Y.prog Y.w) Aw (gEnd Y Q) (gProt2 Y a go fp tn L Q) n s₀ (.compStart (.GeneratorExp elt [⟨tg, iter, [], 0⟩] scope pos) 0 (.ref it) .none Y.env) (.pure (.again (.compLoop (.GeneratorExp elt [⟨tg, iter, [], 0⟩] scope pos) 0 (.ref it) .none Y.env))) [] s :=
    seg_again rfl (seg_itLoop hA hY hco hcl hex ha hpn hcalm hxe T hg hel n 0 H s₀ s hG hr)
  obtain ⟨σ, ps, l, z, hm, ht, I⟩ := hG
  show Seg _ Aw _ _ _ s₀ _ ((compStart _ 0 (.ref it) .none Y.env).onRaise (leaving Y.env)) [] s
  unfold compStart
  rw [Sem.onRaise_eq_wrap]
  apply seg_bind_wrap (m := ask)
  apply wpAny_askSetting
  split
  · exact again
  · apply seg_bind_wrap
    apply wpAny_rule
    apply seg_bind_wrap
    apply wpAny_standAt
    apply seg_bind_wrap
    exact T.self _ 0 s _ _ ht again
end
theorem all_loop2 {Y : Cx} {A : Around} {a : Addr} {fp : List Addr} {tn : Nat → Heap → Prop} {L : Nat} {go : Obj} {g : Nat} {R : Result → Shared → Prop} {Q : Bool → Hp → Prop} (hh : A.handled = none) (hd : A.depth < recursionLimit) (G : GenO go g)
    (fin : ∀ b σ H s, Inv Y [] σ H s → Q b H → R (.ok (.ret (.bool b))) s) :
    ∀ (n : Nat) (s : Shared), s.heap.get? a = some go → s.heap.NoLimit → (∃ gs, s.gens[g]? = some gs ∧ gs.Goes (model Y.prog Y.w) A.in1.in1 (gEnd Y Q) (gProt2 Y a go fp tn L Q) n (.send .none) (s.setGen g .running)) →
      codeAny (model Y.prog Y.w) A (.builtin "all.loop" ⟨[.ref a], []⟩) R s := by
  intro n
  induction n with
  | zero =>
    intro s ha hl ⟨gs, hgs, hgo⟩
    apply codeAny_builtin F.entry_all_loop
    rw [Around.under_plainId F.plain_all_loop _]
    show wpAny _ A.in1 (pyNext (.ref a) >>= _) _ _ s
    apply wpAny_bind
    apply next_genG (A := A.in1) (F := gDone Y Q) (Er := fun _ _ => False) hh hl hd (G.at ha) hgs hgo
    · intro v s1 gs' hb hv
      obtain ⟨b, i, H, rfl, hG, hf, ht⟩ := hv
      cases b with
      | true =>
        obtain ⟨_, _, _, _, _, _, J⟩ := hG
        exact False.elim (ht rfl s1 rfl J.bare rfl)
      | false =>
        obtain ⟨σ, io, _, _, _, _, J⟩ := hG
        apply wpAny_bind
        apply wpAny_holding
        apply wpAny_truthy_bool
        apply wpAny_bind
        apply wpAny_letGo
        show wpAny _ _ (rule _ >>= _) _ _ _
        apply wpAny_bind
        apply wpAny_rule
        apply wpAny_pure
        exact fin false σ H _ (inv_gens (J.pins_of fun p hp => by simp at hp) rfl (allBare_setGen J.bare hb) fun _ _ e => e) (hf rfl)
    · intro s1 hp h' hk
      obtain ⟨σ, H, J, q⟩ := hp
      show wpAny _ _ (rule _ >>= _) _ _ _
      apply wpAny_bind
      apply wpAny_rule
      apply wpAny_pure
      exact fin true σ H _ (inv_gens J rfl (allBare_setGen J.bare rfl) hk) q
    · intro e s1 he
      exact he.elim
  | succ n ih =>
    intro s ha hl ⟨gs, hgs, hgo⟩
    have hgl : g < s.gens.size := (Array.getElem?_eq_some_iff.mp hgs).1
    apply codeAny_builtin F.entry_all_loop
    rw [Around.under_plainId F.plain_all_loop _]
    show wpAny _ A.in1 (pyNext (.ref a) >>= _) _ _ s
    apply wpAny_bind
    apply wpAny_gsz (n := g + 1) hgl
    apply next_genG (A := A.in1) (F := gDone Y Q) (Er := fun _ _ => False) hh hl hd (G.at ha) hgs hgo
    · intro v s1 gs' hb hv hsz
      obtain ⟨b, i, H, rfl, hG, hf, ht⟩ := hv
      have hG' := hG
      obtain ⟨σ, io, _, _, _, _, J⟩ := hG'
      have pa := J.pin (a, go) (List.mem_append_right _ (by simp))
      apply wpAny_bind
      apply wpAny_holding
      apply wpAny_truthy_bool
      apply wpAny_bind
      apply wpAny_letGo
      cases b with
      | false =>
        show wpAny _ _ (rule _ >>= _) _ _ _
        apply wpAny_bind
        apply wpAny_rule
        apply wpAny_pure
        exact fin false σ H _ (inv_gens (J.pins_of fun p hp => by simp at hp) rfl (allBare_setGen J.bare hb) fun _ _ e => e) (hf rfl)
      | true =>
        simp only [if_true]
        have hsz1 : g < s1.gens.size := by
          have q : (s1.setGen g gs').gens.size = s1.gens.size := setGen_size _ _ _
          have : g + 1 ≤ (s1.setGen g gs').gens.size := hsz
          omega
        refine wpAny_pure ⟨plainId_quiet F.plain_all_loop _, ih (s1.setGen g gs') pa.1 J.nolimit ⟨gs', setGen_at hsz1, ?_⟩⟩
        exact ht rfl _ rfl (allBare_setGen (s := s1.setGen g gs') (allBare_setGen J.bare hb) rfl) rfl
    · intro s1 hp h' hk hsz
      obtain ⟨σ, H, J, q⟩ := hp
      show wpAny _ _ (rule _ >>= _) _ _ _
      apply wpAny_bind
      apply wpAny_rule
      apply wpAny_pure
      exact fin true σ H _ (inv_gens J rfl (allBare_setGen J.bare rfl) hk) q
    · intro e s1 he
      exact he.elim

theorem envs_loopI {elt iter tg : Expr} {pos : Pos} {scope : Scope} {it acc : Value} {env : Env} {A : Around} {l : List Env} (h : A.frames = some l) : (A.over (.compLoop (.GeneratorExp elt [⟨tg, iter, [], 0⟩] scope pos) 0 it acc env) []).frames = some (env :: l) := by
  show pushEnvs (Code.envs (.compLoop (.GeneratorExp elt [⟨tg, iter, [], 0⟩] scope pos) 0 it acc env)) (pushEnvs [] A.frames) = _
  rw [h]
  rfl
theorem room_loopI {k : Nat} {A : Around} {elt iter tg : Expr} {pos : Pos} {scope : Scope} {it acc : Value} {env : Env} (r : Room (k + 1) A) : Room k (A.in1.in1.over (.compLoop (.GeneratorExp elt [⟨tg, iter, [], 0⟩] scope pos) 0 it acc env) []) := by
  have h1 : (A.in1.in1.over (.compLoop (.GeneratorExp elt [⟨tg, iter, [], 0⟩] scope pos) 0 it acc env) []).depth = A.in1.in1.depth + 1 := rfl
  have h2 : (A.in1.in1.over (.compLoop (.GeneratorExp elt [⟨tg, iter, [], 0⟩] scope pos) 0 it acc env) []).units = A.in1.in1.units + 3 := rfl
  have h3 : A.in1.in1.depth = A.depth := rfl
  have h4 : A.in1.in1.units = A.units + 1 + 1 := rfl
  have h5 := r.dp
  have h6 := r.un
  exact ⟨r.hd, by rw [h1, h3]; omega, by rw [h2, h4]; omega⟩
section
variable {X : Cx} {pins : List (Addr × Obj)} {σ : L2.St} {H : Hp} {s : Shared}
/-- made, not begun; what its whole walk by all leaves -/
def ReadyI (X : Cx) (pins : List (Addr × Obj)) (σ : L2.St) (R : Nat → (Bool → Hp → Prop) → Prop) (n L : Nat) (a : Addr) (s5 : Shared) : Prop :=
  ∃ (go : Obj) (g : Nat) (fp : List Addr) (tn : Nat → Heap → Prop), GenO go g ∧ s5.heap.get? a = some go ∧ s5.heap.NoLimit ∧ g < s5.gens.size ∧ ∀ Q : Bool → Hp → Prop, R n Q → ∃ (Y : Cx),
    Y.prog = X.prog ∧ Y.w = X.w ∧ (∃ gs, s5.gens[g]? = some gs ∧ gs.Goes (model Y.prog Y.w) X.A.in1.in1 (gEnd Y Q) (gProt2 Y a go fp tn L Q) n (.send .none) (s5.setGen g .running)) ∧
    ∀ b σ' H' s', Inv Y [] σ' H' s' → Q b H' → ∃ H'', Inv X pins σ H'' s' ∧ Q b H''
theorem gen_it {c P : Addr} {elt iter tg : Expr} {xs : List Str} {gpos : Pos} {scope : Scope} {te : TE} {g : TG} {wi : TI} {k : Nat} {Q' : Value → Shared → Prop} {R : It → Nat → Hp → Prop}
    (hr : Room (k + 1) X.A) (TB : GxR.TabB X.base X.mg c P) (hcode : X.env.code = .ref c) (S : ManyN scope xs) (hi : PI X tg iter wi)
    (hg : ∀ (s : Shared) (H : Hp) (cenv : Env) (B : Around) (fp : List Addr), cenv.scope = scope → PG (gyOf X xs s H cenv B fp) tg g)
    (hel : ∀ (s : Shared) (H : Hp) (C : Addr) (code : Value) (I : Addr) (fp : List Addr), Room k (X.A.in1.in1.over (.compLoop (.GeneratorExp elt [⟨tg, iter, [], 0⟩] scope gpos) 0 (.ref I) .none (genEnv scope [] C code builtinsNs X.env)) []) →
      PE (gyOf X xs s H (genEnv scope [] C code builtinsNs X.env) (X.A.in1.in1.over (.compLoop (.GeneratorExp elt [⟨tg, iter, [], 0⟩] scope gpos) 0 (.ref I) .none (genEnv scope [] C code builtinsNs X.env)) []) fp) elt te)
    (hs : ∀ v, genFold iter X.env v = pure v) (I0 : Inv X pins σ H s)
    (h : wi σ H fun J H1 => GxR.TabG H1 P ∧ ∀ H2, GxR.Tabbed P H1 H2 → ∃ n, R J n H2)
    (hQ : ∀ J n H2 a s5, R J n H2 → ReadyI X pins σ (fun n Q => rdAllI g te J (xs.length + 1) n 0 H2 Q) n (xs.length + 1) a s5 → Q' (.ref a) s5) :
    wpAny (model X.prog X.w) X.A (eval (.GeneratorExp elt [⟨tg, iter, [], 0⟩] scope gpos) X.env) Q' X.xe s := by
  have hcl : closureFor scope X.env = pure [] := by
    rw [closure_ok fun y hy hf => absurd hf (S.free y hy), clo_none S.free]
  have hroom : X.A.depth < recursionLimit := by
    have := hr.dp
    omega
  apply wpAny_GeneratorExp_make S.co hcl S.cell S.dot S.kind hroom ?_ hs
  refine wpAny_mono (hi.run pins s σ H _ I0 h) (fun v s0 w0 => wpAny_mono w0 ?_ fun _ _ z => z) fun _ _ z => z
  rintro _ s1 ⟨it, fp, tn, J, H1, rfl, I1, T, st, hf, ⟨tb, hP, ht⟩, q1⟩
  refine ⟨I1.nolimit, ?_⟩
  have tabS : s1.heap.get? P = some { cls := .none, data := .fields tb } := I1.hok P _ hP
  have Plt : P < s1.heap.objs.size := Heap.lt_size tabS
  refine gcode (s2 := s1) hcode (TB.code.keeps fun b u e => I1.bk b u e) tabS ht fun code h3 n3 tb3 hx hsz hP3 hmore ht3 => ?_
  obtain ⟨bm, ob, e1, e2, e3, e4, e5, e6, e7, e8⟩ := TB.bm
  have cP : cStatics ≠ P := fun e => by
    obtain ⟨_, hns, _⟩ := I1.nolimit
    obtain ⟨o', es, ep, ho', hd', _⟩ := hns
    rw [e, tabS] at ho'
    cases ho'
    cases hd'
  apply wpAny_builtinsFor (m := X.mg) (by rw [I1.ok.glob]; exact (I1.mod.glob.keeps I1.bk).extBut hx TB.gP) e1 e2 (hx _ _ e4 (I1.bk _ _ e5)) e6 e7 e8
  intro h5 hns hsb
  obtain ⟨more, em⟩ := hmore
  subst em
  have I4 := GxR.inv_tab (more := more) (h' := h3) (g' := s1.gens) (d' := s1.drawn) (t' := n3) I1 hP hx hP3 I1.bare
  generalize hgo : ({ cls := .type "generator", data := .fields #[.int s1.gens.size 0, .str "<genexpr>" (n3 + 1), .str (X.env.qual ++ "<genexpr>") (n3 + 1 + 1)] } : Obj) = go
  have GO : GenO go s1.gens.size := by
    subst hgo
    exact ⟨rfl, ⟨_, _, rfl⟩, rfl⟩
  have k5 : ∀ b u, h3.get? b = some u → h5.get? b = some u := fun b u e => hsb.extBut b u (Nat.ne_of_lt (Heap.lt_size e)) (Heap.get?_push_of_some _ e)
  have k6 : ∀ b u, h3.get? b = some u → (h5.push go).get? b = some u := fun b u e => Heap.get?_push_of_some _ (k5 b u e)
  have sz5 : h5.objs.size = h3.objs.size + 1 := by rw [hsb.1, Heap.size_push]
  have hga : (h5.push go).get? h5.objs.size = some go := by
    subst hgo
    exact Heap.get?_push_size _ rfl
  have god : ∀ v, go.data ≠ .cell v := fun v q => by
    obtain ⟨nm, qn, d⟩ := GO.data
    rw [d] at q
    cases q
  -- the walked objects
  have fpP : ∀ b ∈ fp, b ≠ P := fun b hb z => by
    have := (hf b hb).1
    rw [z, hP] at this
    cases this
  have lt1 : ∀ b ∈ fp, b < s1.heap.objs.size := fun b hb => by
    obtain ⟨o, e, _⟩ := T.obj 0 s1.heap st b hb
    exact Heap.lt_size e
  have k3 : ∀ b ∈ fp, ∀ o, s1.heap.get? b = some o → h3.get? b = some o := fun b hb o e => hx b o (fpP b hb) e
  have lt3 : ∀ b ∈ fp, b < h3.objs.size := fun b hb => by
    obtain ⟨o, e, _⟩ := T.obj 0 s1.heap st b hb
    exact Heap.lt_size (k3 b hb o e)
  have none2 : ∀ b ∈ fp, (upd H1 P (.tbl (tb ++ more))) b = none := fun b hb => by
    rw [upd_ne (fpP b hb)]
    exact (hf b hb).1
  have nst : ∀ b ∈ fp, b ∉ frs X.stack := fun b hb hm => by
    rcases List.mem_cons.mp (I1.stkSub b hm) with z | z
    · exact (hf b hb).2.1 z
    · exact (hf b hb).2.2.1 z
  have nstN : ∀ b, h3.objs.size ≤ b → b ∉ frs X.stack := fun b hb hm => by
    rcases List.mem_cons.mp (I4.stkSub b hm) with z | z
    · rw [z] at hb
      exact absurd (Nat.lt_of_lt_of_le I4.lt hb) (Nat.lt_irrefl _)
    · exact I4.nofs hb z
  have st3 : tn 0 h3 := T.keep 0 s1.heap h3 st k3
  have st6 : tn 0 (h5.push go) := T.keep 0 h3 (h5.push go) st3 fun b _ o e => k6 b o e
  obtain ⟨ps, hm, ho⟩ := objs_of (T.obj 0 _ st6)
  have aN : h5.objs.size ∉ fp := fun z => by
    have q : h5.objs.size < h3.objs.size := lt3 _ z
    rw [sz5] at q
    exact Nat.not_succ_lt_self q
  obtain ⟨n, qn⟩ := q1 _ ⟨⟨_, upd_same, ht3⟩, fun b hb => upd_ne hb⟩
  refine hQ J n _ _ _ qn ⟨go, s1.gens.size, fp, tn, GO, hga, I4.nolimit.keeps k6, by show _ < (s1.gens.push _).size; rw [Array.size_push]; exact Nat.lt_succ_self _, fun Q hrd => ?_⟩
  have KY : (gyOf X xs { s1 with heap := h3, gens := s1.gens, drawn := s1.drawn, toks := n3 } (upd H1 P (.tbl (tb ++ more))) (genEnv scope [] h3.objs.size code builtinsNs X.env)
      (X.A.in1.in1.over (.compLoop (.GeneratorExp elt [⟨tg, iter, [], 0⟩] scope gpos) 0 (.ref it) .none (genEnv scope [] h3.objs.size code builtinsNs X.env)) []) fp).Ok := by
    refine ⟨I4.ok.mod, S.kind, I4.ok.glob, rfl, Nat.le_refl _, fun y z c e _ => (by cases e), fun y hy => ?_, fun y c _ e => (by cases e), fun _ => hr.hd, envs_loopI I4.ok.frames, .inr ⟨rfl, rfl⟩, fun b hb => ⟨Nat.ne_of_lt (lt3 b hb), fun y c e => (by cases e)⟩, fun b o e => I4.bs b o e, Nat.le_trans I4.ok.bsz I4.sz, fun b o e hb => ?_, fun b hb => nst b hb, I4.stack, I4.stkFree⟩
    · have hy' : scope.names.lookup y = some .cell ∨ scope.names.lookup y = some .free := hy
      rcases hy' with z | z
      · exact absurd rfl (S.cell _ (PySem.mem_of_lookup z))
      · exact absurd rfl (S.free _ (PySem.mem_of_lookup z))
    · rcases (hf b hb).2.2.2.1 with z | z
      · exact I1.ok.noex b o e z
      · exact absurd (Nat.lt_of_lt_of_le (Heap.lt_size e) (Nat.le_trans I1.ok.bsz z)) (Nat.lt_irrefl _)
  refine ⟨gyOf X xs { s1 with heap := h3, gens := s1.gens, drawn := s1.drawn, toks := n3 } (upd H1 P (.tbl (tb ++ more))) (genEnv scope [] h3.objs.size code builtinsNs X.env)
      (X.A.in1.in1.over (.compLoop (.GeneratorExp elt [⟨tg, iter, [], 0⟩] scope gpos) 0 (.ref it) .none (genEnv scope [] h3.objs.size code builtinsNs X.env)) []) fp, rfl, rfl,
    ⟨_, Array.getElem?_push_size .., rfl, seg_itStart (Aw := X.A.in1.in1) hr.hd rfl S.co rfl (fun b hb => hb) aN rfl rfl rfl T (hg _ _ _ _ _ rfl) (hel _ _ _ _ _ _ (room_loopI hr)) ⟨List.replicate (xs.length + 1) none, ps, List.length_replicate .., by simp, hm, st6, ?_⟩ hrd⟩,
    fun b σ' H' s' J q => ⟨H', I4.call' (ch := fp) J.os J.base J.hok J.bare fun b hb => ⟨(hf b hb).2.2.2.1, (hf b hb).2.1, (hf b hb).2.2.2.2.1, (hf b hb).2.2.2.2.2⟩, q⟩⟩
  refine ⟨KY, rfl, allBare_setGen (AllBare.push I1.bare rfl) rfl, Un.kept k6, ⟨_, hns.push _, fun i y v _ h2 _ => ?_⟩, fun y c e => (by cases e), I4.hok.fresh (Nat.le_refl _), fun y c e => (by cases e), fun p hp => ?_, I4.hok.kept k6, ?_⟩
  · have h2' : (List.replicate (xs.length + 1) (none : Option V))[i]? = some (some v) := h2
    rw [List.getElem?_replicate] at h2'
    split at h2' <;> cases h2'
  · rcases List.mem_cons.mp (show p ∈ (h5.objs.size, go) :: ps from hp) with rfl | hp
    · exact ⟨hga, I4.hok.fresh (show h3.objs.size ≤ h5.objs.size by omega), (by show h5.objs.size ≠ h3.objs.size; omega), nstN _ (show h3.objs.size ≤ h5.objs.size by omega), god⟩
    · have hb : p.1 ∈ fp := hm ▸ List.mem_map.mpr ⟨p, hp, rfl⟩
      exact ⟨(ho p hp).1, none2 _ hb, Nat.ne_of_lt (lt3 _ hb), nst _ hb, (ho p hp).2⟩
  · show (List.replicate (xs.length + 1) (none : Option V)).length = ((".0" : Str) :: xs).length
    rw [List.length_replicate]
    rfl
end
/-- all(e for .. in ..): the def's table may have grown when the first is asked -/
def tAllI (P : Addr) (g : TG) (te : TE) (wi : TI) (L : Nat) : TE := fun σ H Q => wi σ H fun J H1 => GxR.TabG H1 P ∧ ∀ H2, GxR.Tabbed P H1 H2 → ∃ n, rdAllI g te J L n 0 H2 fun b H' => Q (.bl b) H'

section
variable {X : Cx}
theorem pe_allI {c P : Addr} {elt iter tg : Expr} {xs : List Str} {p pos gpos : Pos} {scope : Scope} {te : TE} {g : TG} {wi : TI} {k : Nat}
    (hr : Room (k + 1) X.A) (hgl : Gl X "all") (hm : X.mg "all" = none) (TB : GxR.TabB X.base X.mg c P) (hcode : X.env.code = .ref c) (S : ManyN scope xs) (hi : PI X tg iter wi)
    (hg : ∀ (s : Shared) (H : Hp) (cenv : Env) (B : Around) (fp : List Addr), cenv.scope = scope → PG (gyOf X xs s H cenv B fp) tg g)
    (hel : ∀ (s : Shared) (H : Hp) (C : Addr) (code : Value) (I : Addr) (fp : List Addr), Room k (X.A.in1.in1.over (.compLoop (.GeneratorExp elt [⟨tg, iter, [], 0⟩] scope gpos) 0 (.ref I) .none (genEnv scope [] C code builtinsNs X.env)) []) →
      PE (gyOf X xs s H (genEnv scope [] C code builtinsNs X.env) (X.A.in1.in1.over (.compLoop (.GeneratorExp elt [⟨tg, iter, [], 0⟩] scope gpos) 0 (.ref I) .none (genEnv scope [] C code builtinsNs X.env)) []) fp) elt te)
    (hs : ∀ v, genFold iter X.env v = pure v) (hb : bootBuiltins "all" = some (.builtin "all") := by decide +kernel)
    (he : starEach [.GeneratorExp elt [⟨tg, iter, [], 0⟩] scope gpos] X.env = (false, eval (.GeneratorExp elt [⟨tg, iter, [], 0⟩] scope gpos) X.env) :: starEach [] X.env := by rfl) :
    PE X (.Call (.Name "all" p) [.GeneratorExp elt [⟨tg, iter, [], 0⟩] scope gpos] [] pos) (tAllI P g te wi (xs.length + 1)) := by
  constructor
  intro pins s σ H Q I want
  have hroom : X.A.depth < recursionLimit := by
    have := hr.dp
    omega
  apply wpAny_Call_Name_kw (ld_blt I hgl hm hb ?_)
  apply PyProof.Rows.callWith_builtin1 ?_ he (by rfl)
  rw [he]
  show wpAny _ _ (spliced ((false, eval (.GeneratorExp elt [⟨tg, iter, [], 0⟩] scope gpos) X.env) :: backTo pos (starEach [] X.env))) _ _ s
  apply Calls.spliced_cons (gen_it (R := fun J n H2 => rdAllI g te J (xs.length + 1) n 0 H2 fun b H' => Q (.bl b) H') hr TB hcode S hi hg hel hs I want ?_)
  intro J n H2 a s5 k5 ready
  obtain ⟨go, gi, fp, tn, GO, ha, lim, _, fin⟩ := ready
  obtain ⟨Y, eP, eW, hgo, back⟩ := fin _ k5
  apply Calls.spliced_nil
  apply call_function_tree F.kind_all F.plain_all F.entry_all (F.args_all1 _)
  unfold Builtin.«all»
  refine wpAny_bind (m := oneArg "all" _) (wpAny_pure ?_)
  refine wpAny_bind (wpAny_pyIter_gen (GO.at ha) ?_)
  refine wpAny_pure ⟨plainId_quiet F.plain_all_loop _, ?_⟩
  have key := all_loop2 (Y := Y) (A := X.A) (fp := fp) (tn := tn) (L := xs.length + 1) (R := fun r s' => match r with | .ok (.ret v) => EP X pins σ Q v s' | .ok _ => False | .error e => X.xe e s') hr.hd hroom GO (fun b σ' H' s' J q => by
    obtain ⟨H'', J2, q2⟩ := back b σ' H' s' J q
    exact ⟨.bl b, H'', J2, rfl, q2⟩) n s5 ha lim hgo
  rw [eP, eW] at key
  exact key
end
section
variable {X : Cx}
theorem pg_two {x1 x2 : Str} {s : Shared} {H : Hp} {cenv : Env} {B : Around} {fp : List Addr} {scope : Scope} {p1 p2 pos : Pos} {n : Nat} (ec : cenv.scope = scope) (nd : List.Nodup [(".0" : Str), x1, x2]) (h1 : scope.names.lookup x1 = some .local) (h2 : scope.names.lookup x2 = some .local) :
    PG (gyOf X [x1, x2] s H cenv B fp) (.Tuple [.Name x1 p1, .Name x2 p2] n pos) (gTup X.K 2 (gCons (gName 1) (gCons (gName 2) gNil))) := by
  subst ec
  exact pg_tup (X := gyOf X [x1, x2] s H cenv B fp) rfl (pgs_cons (pg_name (X := gyOf X [x1, x2] s H cenv B fp) (i := 1) nd rfl (Or.inl h1)) (pgs_cons (pg_name (X := gyOf X [x1, x2] s H cenv B fp) (i := 2) nd rfl (Or.inl h2)) pgs_nil))
end
end Jf
set_option Elab.async false
set_option linter.all false
set_option maxRecDepth 100000
set_option maxHeartbeats 4000000
namespace PySem.W
open Lean Elab Tactic Meta PySem PySem.Calls PyProof.Rows Builtin Builtin.ObjectAttr Builtin.Getset_descriptor PyProof.V PySem.Spec
section
variable {prog : Program} {w : World} {A : Around} {E : Value → Shared → Prop} {s : Shared} {K : Frag} {x C : Addr} {ox : Obj} {od : Option Obj} {R : Result → Shared → Prop}
/-- an attribute of an error of the program's own class is asked of BaseException's own reader -/
theorem jf_asks {name : Str} {gt : Option Value} {ex : Bool} {Q : Value → Shared → Prop} (X : K.In s.heap) (I : InstAt s.heap x ox C od)
    (h1 : findIn K (.ref C) "__getattribute__" = some (some (.builtin "BaseException.__getattribute__"))) (h2 : findIn K (.ref C) "__getattr__" = some gt) (h3 : subIn K (.ref C) (.type "BaseException") = some true)
    (go : ∀ B : Around, wpAny (model prog w) B (Builtin.«object.__getattribute__» ⟨[.ref x, .str name s.toks], []⟩) (fun f s' => ∃ v, f = .done (.ret v) ∧ handedIn v = true ∧ Q v s') (fun _ _ => False) { s with toks := s.toks + 1 }) :
    wpAny (model prog w) A (getAttr (.ref x) name ex) Q E s := by
  have same : (onTheHeap (Value.ref C) && (.builtin "BaseException.__getattribute__" : Value) == .builtin "object.__getattribute__") = false := by
    rw [show ((.builtin "BaseException.__getattribute__" : Value) == .builtin "object.__getattribute__") = false from by decide +kernel]
    rfl
  have ofB : Looks (model prog w) s.heap (isInstance (.ref x) (.type "BaseException")) true := (I.type (M := model prog w)).andThen (looks_subIn X h3)
  have byB := PySem.F.excAttr_ValueError.ga
  unfold getAttr getAttrBy
  refine wpAny_bind (wpAny_mkText (wpAny_holding (wpAny_bind ((I.type (M := model prog w)).at (wpAny_bind ((looks_findIn X h1).at ?_))))))
  dsimp only
  rw [same, if_neg (by decide)]
  unfold getAttrByItsOwn hookBefore
  refine wpAny_bind ?_
  rw [if_pos (by rfl : onTheHeap (Value.ref C) = true)]
  refine (looks_findIn X h2).at (wpAny_bind (wpAny_attempt (wpAny_holding ?_)))
  unfold callGetattribute
  rw [if_neg (by cases ex <;> exact Bool.false_ne_true : ¬ (ex && onTheHeap (Value.builtin "BaseException.__getattribute__")) = true)]
  unfold boundAndCalled
  rw [byB.bind (.ref x)]
  refine wpAny_bind (wpAny_pure (wpAny_call (codeAny_call_builtin byB.plain PySem.F.entry_bexc_ga ?_)))
  refine check_slot (s := { s with toks := s.toks + 1 }) (i := "BaseException.__getattribute__") (owner := "BaseException") (n := "__getattribute__") (by decide +kernel) (by decide +kernel) ofB (PySem.F.args_bexc_ga (.ref x) (.str name s.toks)) ?_
  refine wpAny_mono (go _) (fun f s' hf => ?_) fun _ _ z => z.elim
  obtain ⟨v, rfl, hv, q⟩ := hf
  exact handed_on hv q
/-- its class -/
theorem jf_classX {gt : Option Value} {expr : Bool} {Q : Value → Shared → Prop} (X : K.In s.heap) (I : InstAt s.heap x ox C od) (h1 : findIn K (.ref C) "__getattribute__" = some (some (.builtin "BaseException.__getattribute__"))) (h2 : findIn K (.ref C) "__getattr__" = some gt)
    (h3 : subIn K (.ref C) (.type "BaseException") = some true) (h4 : findObj K C od "__class__" = some (.bind (.builtin "getset_descriptor.__get__") (.builtin "object.__class__"))) (h5 : mroIn K C (.type "object") = some true)
    (q : Q (.ref C) { s with toks := s.toks + 1 }) : wpAny (model prog w) A (getAttr (.ref x) "__class__" expr) Q E s := by
  refine jf_asks X I h1 h2 h3 fun B => ?_
  have found := looks_find (M := model prog w) X I h4
  unfold Builtin.«object.__getattribute__»
  refine wpAny_bind (wpAny_of_eq (a := ((Value.ref x : Value), [Value.str "__class__" s.toks])) (by first | rfl | (simp only [slotArgs]; rfl)) (wpAny_bind (wpAny_pure (wpAny_bind ((I.type (M := model prog w)).at (wpAny_bind (found.at ?_)))))))
  have J : K.In ({ s with toks := s.toks + 1 } : Shared).heap := X
  refine wpAny_bind (wpAny_holding (wpAny_call (class_get (s := { s with toks := s.toks + 1 }) (ox := ox) (od := od) J I h5 (wpAny_pure ⟨_, rfl, rfl, q⟩))))
theorem jf_dga (d tp : Value) (C : Addr) : descrGetArgs ⟨[d, .ref C, tp], []⟩ = pure (d, some (.ref C), given tp) := by rfl
/-- c.__name__, what its slot keeps -/
theorem jf_name_get {tp : Value} {o : Obj} {n : Str} {tk : Tok} (X : K.In s.heap) (ht : typeIn K (.ref C) = some (.type "type")) (hl : K.lookup C = some o) (hs : o.slots[2]? = some (some (.str n tk))) (h : R (.ok (.ret (.str n tk))) s) :
    codeAny (model prog w) A (.call (.builtin "getset_descriptor.__get__") ⟨[.builtin "type.__name__", .ref C, tp], []⟩) R s := by
  obtain ⟨hh, g, dr, t, os⟩ := s
  have L0 : Looks (model prog w) hh (typeOf (.ref C)) (.type "type") := looks_typeIn X ht
  have L1 : Looks (model prog w) hh (isSubtype (.type "type") (.type "type")) true := Looks.of_pure (by rw [isSubtype_type]; kernel_rfl)
  refine codeAny_call_builtin KF.slot_gs.plain KF.entry_gs (KF.slot_gs.check _ _ _ _ _ _ _ _ ktyn_type (KF.args_gs _ _ _) ?_)
  unfold Builtin.«getset_descriptor.__get__» descrGet
  rw [jf_dga]
  refine wpAny_bind (wpAny_pure ?_)
  unfold descrGetter descrCheckInstance descrNameAndClass isInstance
  simp only [ktyn_owner]
  repeat lk
  refine ⟨Code.quiet_builtin _ (by decide +kernel), codeAny_builtin ktyn_entry ?_⟩
  unfold Builtin.«type.__name__»
  dsimp only
  unfold Builtin.keptObject slotAt
  dsimp only
  refine wpAny_bind (wpAny_bind (wpAny_bind (wpAny_loadPart (X _ _ hl) ?_)))
  refine wpAny_pure (wpAny_pure ?_)
  rw [hs]
  exact wpAny_pure h
end
end PySem.W
namespace Jf
open PySem PySem.Spec PyProof.Rows L2 Evl
/-- what is asked of a class, so that its name is read -/
structure NmC (K : PySem.W.Frag) (C : Addr) (nm : Str) : Prop where
  ga : PySem.W.findIn K (.ref C) "__getattribute__" = some (some (.builtin "BaseException.__getattribute__"))
  gg : PySem.W.findIn K (.ref C) "__getattr__" = some none
  ex : PySem.W.subIn K (.ref C) (.type "BaseException") = some true
  cl : (PySem.W.clsIn K C).isSome = true
  kc : PySem.W.findIn K (.ref C) "__class__" = some (some (.builtin "object.__class__"))
  sp : PySem.W.specialIn K (.builtin "object.__class__") "__get__" = some (some (.builtin "getset_descriptor.__get__"))
  tk : PySem.W.takesIn K (.builtin "object.__class__") = some true
  mo : PySem.W.mroIn K C (.type "object") = some true
  rd : PySem.W.readsIn K C (.type "type") = true
  fd : PySem.W.findCls K (.ref C) (.type "type") "__name__" = some (.get (.builtin "getset_descriptor.__get__") (.builtin "type.__name__") (.ref C) (.type "type"))
  ty : PySem.W.typeIn K (.ref C) = some (.type "type")
  sl : ∃ o t, K.lookup C = some o ∧ o.slots[2]? = some (some (.str nm t))
/-- e.__class__.__name__ -/
def tNm (K : PySem.W.Frag) (te : TE) : TE := fun σ H Q => te σ H fun x H1 => ∃ (a C dx : Addr) (fs : List (Str × V)) (nm : Str), x = .ref a ∧ NmC K C nm ∧ H1 a = some (exo a C (some dx)) ∧ H1 dx = some (exd dx fs) ∧ Q (.str nm) H1
theorem pe_nm {X : Cx} {e : Expr} {te : TE} {p1 pos : Pos} (he : PE X e te) (hb1 : attributeBase e "__class__" X.env (eval e X.env) = eval e X.env := by rfl)
    (hb : attributeBase (.Attribute e "__class__" p1) "__name__" X.env (eval (.Attribute e "__class__" p1) X.env) = eval (.Attribute e "__class__" p1) X.env := by rfl) : PE X (.Attribute (.Attribute e "__class__" p1) "__name__" pos) (tNm X.K te) := by
  refine ⟨fun pins s σ H Q I h => ?_⟩
  refine attr_of hb (attr_of hb1 (thn (he.run pins s σ H _ I h) fun u s1 hh => ?_))
  obtain ⟨x, H1, I1, rx, a, C, dx, fs, nm, ex, T, ea, ed, q⟩ := hh
  subst ex
  obtain rfl : u = Value.ref a := rx
  obtain ⟨t1, ho⟩ := exo_at I1.hok ea
  obtain ⟨mA, hns, hr⟩ := exd_at I1.hok ed
  obtain ⟨od, hod, hl⟩ := lookIn_ns hns
  have J : PySem.W.InstAt s1.heap a { cls := .ref C, dict := some dx, data := .fields #[.ref t1, .none, .none, .none, .bool false, .none] } C (some od) := ⟨ho, rfl, rfl, hod⟩
  refine PySem.W.jf_classX I1.kIn J T.ga T.gg T.ex (PySem.W.findObj_dataE T.cl T.kc T.sp T.tk) T.mo ?_
  obtain ⟨o, t, e1, e2⟩ := T.sl
  have I2 := I1.tok (s1.toks + 1)
  have I3 := I1.tok (s1.toks + 1 + 1)
  refine PySem.W.cls_bind (s := { s1 with toks := s1.toks + 1 }) I2.kIn T.rd T.fd (wpAny_call (PySem.W.jf_name_get (s := { s1 with toks := s1.toks + 1 + 1 }) I3.kIn T.ty e1 e2 ?_))
  refine PySem.W.handed_on rfl ?_
  exact ⟨.str nm, H1, I3, ⟨t, rfl⟩, q⟩
end Jf
set_option Elab.async false
set_option linter.all false
set_option maxRecDepth 100000
set_option maxHeartbeats 4000000
namespace Jf
open PySem PySem.Spec PyProof.Rows L2 Evl
/-! ### error classes right under one class over ValueError, each with an `__init__` of its own that calls that one's -/
def clsOk (K : PySem.W.Frag) (C CM : Addr) (nm : Str) : Bool := match K.lookup C with
  | some ⟨.type "type", _, .cls cd, sl⟩ => (match sl.toList with
    | [_, _, _, _, some (.builtin n), _] => decide (n = "ValueError.__new__") && (decide (cd.name = nm) && (decide (cd.mro = [.ref C, .ref CM, .type "ValueError", .type "Exception", .type "BaseException", .type "object"]) && (decide (cd.hasDict = true) && decide (cd.hasDel = false))))
    | _ => false)
  | _ => false
/-- its name is read -/
def fdB (K : PySem.W.Frag) (C : Addr) : Bool := match PySem.W.findCls K (.ref C) (.type "type") "__name__" with
  | some (.get (.builtin g) (.builtin a) (.ref D) (.type t)) => decide (g = "getset_descriptor.__get__") && (decide (a = "type.__name__") && (decide (D = C) && decide (t = "type")))
  | _ => false
def slB (K : PySem.W.Frag) (C : Addr) (nm : Str) : Bool := match K.lookup C with
  | some o => (match o.slots[2]? with
    | some (some (Value.str n _)) => decide (n = nm)
    | _ => false)
  | none => false
def nmB (K : PySem.W.Frag) (C : Addr) (nm : Str) : Bool := PySem.W.readsIn K C (.type "type") && (fdB K C && (slB K C nm && decide (PySem.W.findIn K (.ref C) "kind" = some none)))
theorem fd_ok {K : PySem.W.Frag} {C : Addr} (h : fdB K C = true) : PySem.W.findCls K (.ref C) (.type "type") "__name__" = some (.get (.builtin "getset_descriptor.__get__") (.builtin "type.__name__") (.ref C) (.type "type")) := by
  unfold fdB at h
  split at h
  · rename_i g a D t e
    simp only [Bool.and_eq_true, decide_eq_true_eq] at h
    obtain ⟨rfl, rfl, rfl, rfl⟩ := h
    exact e
  · cases h
theorem sl_ok {K : PySem.W.Frag} {C : Addr} {nm : Str} (h : slB K C nm = true) : ∃ o t, K.lookup C = some o ∧ o.slots[2]? = some (some (.str nm t)) := by
  unfold slB at h
  split at h
  · rename_i o e
    split at h
    · rename_i n t e2
      simp only [decide_eq_true_eq] at h
      subst h
      exact ⟨o, t, e, e2⟩
    · cases h
  · cases h
/-- all that is asked of a class, as one truth -/
def errB (K : PySem.W.Frag) (C CM f : Addr) (nm : Str) : Bool :=
  nmB K C nm && (clsOk K C CM nm && (decide (PySem.W.findIn K (.ref C) "__setattr__" = some (some (.builtin "object.__setattr__"))) && (decide (PySem.W.subIn K (.ref C) (.type "BaseException") = some true) && (decide (PySem.W.typeIn K (.ref C) = some (.type "type")) &&
  (PySem.W.keepIn K (.ref C) && (decide (PySem.W.findIn K (.ref C) "__init__" = some (some (.ref f))) && (decide (PySem.W.typeIn K (.ref f) = some (.type "function")) && (decide (PySem.W.findIn K (.ref C) "value" = some none) &&
  (decide (PySem.W.findIn K (.ref C) "__getattribute__" = some (some (.builtin "BaseException.__getattribute__"))) && (decide (PySem.W.findIn K (.ref C) "__getattr__" = some none) && (PySem.W.hasDictIn K C &&
  (decide (PySem.W.findIn K (.ref C) "__class__" = some (some (.builtin "object.__class__"))) && (decide (PySem.W.specialIn K (.builtin "object.__class__") "__get__" = some (some (.builtin "getset_descriptor.__get__"))) && (decide (PySem.W.takesIn K (.builtin "object.__class__") = some true) &&
  (decide (PySem.W.mroIn K C (.type "object") = some true) && (decide (PySem.W.exmOne K (.ref C) (.ref CM) = some true) && !(C == CM)))))))))))))))))
structure ErrX (K : PySem.W.Frag) (C CM f : Addr) (nm : Str) : Prop where
  oex : OexC K C
  i : PySem.W.findIn K (.ref C) "__init__" = some (some (.ref f))
  t : PySem.W.typeIn K (.ref f) = some (.type "function")
  noV : PySem.W.findIn K (.ref C) "value" = some none
  ec : ErrC K C
  xf : XfC K C
  named : ∃ cd, PySem.W.clsIn K C = some cd ∧ cd.name = nm ∧ cd.mro = [.ref C, .ref CM, .type "ValueError", .type "Exception", .type "BaseException", .type "object"]
  exm : PySem.W.exmOne K (.ref C) (.ref CM) = some true
  ty : PySem.W.typeIn K (.ref C) = some (.type "type")
  neM : C ≠ CM
  nm : NmC K C nm
  noK : PySem.W.findIn K (.ref C) "kind" = some none
theorem cls_ok {K : PySem.W.Frag} {C CM : Addr} {nm : Str} (h : clsOk K C CM nm = true) : (∃ q N bs bm sn sub ab col dd k0 k1 k2 k3 k5, K.lookup C = some (excClassObj nm q C N bs bm true sn sub ab col dd k0 k1 k2 k3 k5 "ValueError.__new__") ∧ PySem.HandSPX.refsVE bm = true) ∧
    ∃ cd, PySem.W.clsIn K C = some cd ∧ cd.name = nm ∧ cd.mro = [.ref C, .ref CM, .type "ValueError", .type "Exception", .type "BaseException", .type "object"] := by
  unfold clsOk at h
  split at h
  · rename_i dd cd sl ho
    split at h
    · rename_i k0 k1 k2 k3 n k5 hs
      simp only [Bool.and_eq_true, decide_eq_true_eq] at h
      obtain ⟨rfl, h1, h2, h3, h4⟩ := h
      obtain ⟨nm', bs, mro, ns, qn, hd, sn, sub, ab, col, del⟩ := cd
      dsimp only at h1 h2 h3 h4
      subst h1 h2 h3 h4
      have hsl : sl = #[k0, k1, k2, k3, some (.builtin "ValueError.__new__"), k5] := by
        obtain ⟨l⟩ := sl
        simp only at hs
        rw [hs]
      subst hsl
      exact ⟨⟨qn, ns, bs, [.ref CM, .type "ValueError", .type "Exception", .type "BaseException", .type "object"], sn, sub, ab, col, dd, k0, k1, k2, k3, k5, ho, rfl⟩, _, by unfold PySem.W.clsIn; rw [ho], rfl, rfl⟩
    · cases h
  · cases h
theorem err_ok {K : PySem.W.Frag} {C CM f : Addr} {nm : Str} (h : errB K C CM f nm = true) : ErrX K C CM f nm := by
  unfold errB at h
  simp only [Bool.and_eq_true, decide_eq_true_eq, Bool.not_eq_true', beq_eq_false_iff_ne] at h
  obtain ⟨h0, h1, sa, ex, ty, kp, hi, ht, nv, ga, gg, hd, kc, sp, tk, mo, em, nM⟩ := h
  obtain ⟨⟨q, N, bs, bm, sn, sub, ab, col, dd, k0, k1, k2, k3, k5, hl, hr⟩, cd, hc, hn, hm⟩ := cls_ok h1
  unfold nmB at h0
  simp only [Bool.and_eq_true, decide_eq_true_eq] at h0
  refine ⟨⟨⟨nm, q, N, bs, bm, sn, sub, ab, col, dd, k0, k1, k2, k3, k5, hl, hr⟩, sa, ex, ty, kp⟩, hi, ht, nv, ⟨by rw [hc]; rfl, ga, gg, ex, hd, kc, sp, tk, mo⟩, ⟨ga, gg, ex, hd⟩, ⟨cd, hc, hn, hm⟩, em, ty, nM, ?_, ?_⟩
  · exact ⟨ga, gg, ex, by rw [hc]; rfl, kc, sp, tk, mo, h0.1, fd_ok h0.2.1, ty, sl_ok h0.2.2.1⟩
  · exact h0.2.2.2
section
variable {K : PySem.W.Frag} {C D CM f g : Addr} {nm nk : Str}
theorem kit_one (C : Addr) : PySem.W.kitOne K (.ref C) (.ref C) = some true := by
  unfold PySem.W.kitOne
  rw [if_pos (by simp)]
theorem ErrX.ne (a : ErrX K C CM f nm) (b : ErrX K D CM g nk) (h : nm ≠ nk) : C ≠ D := by
  rintro rfl
  obtain ⟨cd, h1, h2, _⟩ := a.named
  obtain ⟨ce, h3, h4, _⟩ := b.named
  rw [h1] at h3
  cases h3
  exact h (h2.symm.trans h4)
/-- isinstance by another of them -/
theorem ErrX.other (a : ErrX K C CM f nm) (b : ErrX K D CM g nk) (h : nm ≠ nk) : PySem.W.kitOne K (.ref C) (.ref D) = some false := by
  have n := a.ne b h
  obtain ⟨cd, h1, h2, h3⟩ := a.named
  obtain ⟨ce, h4, _, _⟩ := b.named
  unfold PySem.W.kitOne PySem.W.kitCls
  rw [if_neg (by simpa using n)]
  dsimp only
  rw [if_pos (by rw [h4, b.ty]; rfl)]
  show PySem.W.mroIn K C (.ref D) = some false
  unfold PySem.W.mroIn
  rw [h1, Option.bind_some, h3]
  simp [n.symm, b.neM]
theorem ErrX.off (a : ErrX K C CM f nm) (b : ErrX K D CM g nk) (n : C ≠ D) : PySem.W.kitOne K (.ref C) (.ref D) = some false := by
  obtain ⟨cd, h1, h2, h3⟩ := a.named
  obtain ⟨ce, h4, _, _⟩ := b.named
  unfold PySem.W.kitOne PySem.W.kitCls
  rw [if_neg (by simpa using n)]
  dsimp only
  rw [if_pos (by rw [h4, b.ty]; rfl)]
  show PySem.W.mroIn K C (.ref D) = some false
  unfold PySem.W.mroIn
  rw [h1, Option.bind_some, h3]
  simp [n.symm, b.neM]
theorem ErrX.self1 (a : ErrX K C CM f nm) : PySem.W.exmOne K (.ref C) (.ref C) = some true := by
  obtain ⟨cd, h1, h2, h3⟩ := a.named
  refine PySem.W.exm_ref a.ec.ex a.ec.hd a.ty ?_
  show PySem.W.mroIn K C (.ref C) = some true
  unfold PySem.W.mroIn
  rw [h1, Option.bind_some, h3]
  simp
theorem ErrX.base (a : ErrX K C CM f nm) : PySem.W.kitOne K (.ref C) (.ref CM) = some true := by
  have e := a.exm
  unfold PySem.W.exmOne at e
  split at e
  · unfold PySem.W.kitOne
    split
    · rfl
    · exact e
  · cases e
theorem ErrX.ve (a : ErrX K C CM f nm) : PySem.W.kitOne K (.ref C) (.type "ValueError") = some true := by
  obtain ⟨cd, h1, h2, h3⟩ := a.named
  unfold PySem.W.kitOne PySem.W.kitCls
  rw [if_neg (by simp)]
  dsimp only
  rw [if_pos (by decide +kernel)]
  show PySem.W.mroIn K C (.type "ValueError") = some true
  unfold PySem.W.mroIn
  rw [h1, Option.bind_some, h3]
  simp
theorem ErrX.self (a : ErrX K C CM f nm) (b : ErrX K D CM g nk) (h : nm = nk) (e : C = D) : PySem.W.kitOne K (.ref C) (.ref D) = some true := e ▸ kit_one C
end
/-- what such an error keeps -/
def kd (k : Str) (v : V) : List (Str × V) := [(("kind" : Str), .str k), (("value" : Str), v)]
/-- the object made of a class, its value kept -/
def ErrAt (K : PySem.W.Frag) (C : Addr) (v : V) (x : V) (H : Hp) : Prop := ∃ a dx k, x = .ref a ∧ H a = some (exo a C (some dx)) ∧ H dx = some (exd dx (kd k v))

/-! ### making one, as a value -/
def spInit (C : Addr) : Sp := fun vs H Q _ => ∃ (a : Addr) (v : V), vs = [.ref a, v] ∧ H a = some (exo a C none) ∧
  ∀ dx k H', H dx = none → dx ≠ a → H' a = some (exo a C (some dx)) → H' dx = some (exd dx (kd k v)) → (∀ b o, b ≠ a → H b = some o → H' b = some o) → Q .non H'
/-- .. of any of those classes -/
def spInitM (K : PySem.W.Frag) : Sp := fun vs H Q _ => ∃ (C a : Addr) (v : V) (nm : Str), vs = [.ref a, v] ∧ OexC K C ∧ PySem.W.findIn K (.ref C) "value" = some none ∧ PySem.W.findIn K (.ref C) "kind" = some none ∧ NmC K C nm ∧ H a = some (exo a C none) ∧
  ∀ dx k H', H dx = none → dx ≠ a → H' a = some (exo a C (some dx)) → H' dx = some (exd dx (kd k v)) → (∀ b o, b ≠ a → H b = some o → H' b = some o) → Q .non H'
def tMkV (C : Addr) (sp : Sp) (ta : TA) : TE := fun σ H Q => ta σ H fun vs H1 => vs.length ≤ 1000 ∧ ∀ a, H1 a = none → sp (.ref a :: vs) (upd H1 a (exo a C none)) (fun v H2 => v = .non ∧ Q (.ref a) H2) (fun _ _ _ => False)
section
variable {X : Cx} {e : Expr} {es : List Expr} {ta : TA} {x m : Str} {p p1 p2 pos : Pos} {k : Nat} {fd : FuncData} {ps : List Str} {sp : Sp}
/-- C(e, ..) -/
theorem pe_mkv {CX : CXT} {C fI : Addr} (T : OexC X.K C) (iC : PySem.W.findIn X.K (.ref C) "__init__" = some (some (.ref fI))) (tI : PySem.W.typeIn X.K (.ref fI) = some (.type "function"))
    (F1 : FnOk X.prog X.w X.K X.mg X.base CX k fI fd ps sp) (hr : Room (k + 1) X.A) (hb : Binds X.K fd ps []) (hx : Passes CX X (fun _ _ _ => False)) (hg : Gl X x) (hm : X.mg x = some (.ref C)) (ha : PA X (e :: es) ta)
    (hdb : (x == ("__debug__" : Str)) = false := by decide) (he : starEach (e :: es) X.env = (false, eval e X.env) :: starEach es X.env := by rfl) (hpl : (backTo pos (starEach es X.env)).any (·.1) = false := by rfl) :
    PE X (.Call (.Name x p) (e :: es) [] pos) (tMkV C sp ta) := by
  refine ⟨fun pins s σ H Q I h => ?_⟩
  obtain ⟨nm, q, N, bs, bm, sn, sub, ab, col, dd, k0, k1, k2, k3, k5, hC, hbm⟩ := T.cls
  refine wpAny_Call_Name_kw (ld_glob I hg hm ?_ hdb)
  refine PySem.W.callWith_K (h₀ := X.base) I.ok.mod.kin T.kC (thn (ha.run pos pins s σ H _ I h) fun us s1 ⟨vs, H1, I1, r1, hz, q1⟩ => ⟨I1.kIn, ?_⟩) he hpl
  show wpAny _ _ (call (.ref C) us) _ _ _
  obtain ⟨hp, g, dr, tk, os⟩ := s1
  have hsz : hp.objs.size ≤ hp.objs.size + 1 := Nat.le_succ _
  have hn : H1 (hp.objs.size + 1) = none := I1.hok.fresh hsz
  have hq := q1 (hp.objs.size + 1) hn
  have kk : ∀ b o, hp.get? b = some o → ((hp.push (PySem.W.kdv_tup us)).push (PySem.HandSPX.excO C hp.objs.size)).get? b = some o := fun b o e => Heap.get?_push_of_some _ (Heap.get?_push_of_some _ e)
  have hget : ((hp.push (PySem.W.kdv_tup us)).push (PySem.HandSPX.excO C hp.objs.size)).get? (hp.objs.size + 1) = some (PySem.HandSPX.excO C hp.objs.size) := by heap_get
  have I2 : Inv X pins σ (upd H1 (hp.objs.size + 1) (exo (hp.objs.size + 1) C none)) ⟨(hp.push (PySem.W.kdv_tup us)).push (PySem.HandSPX.excO C hp.objs.size), g, dr, tk, os⟩ :=
    I1.laid (t' := tk) (a := hp.objs.size + 1) (o := exo (hp.objs.size + 1) C none) (h' := (hp.push (PySem.W.kdv_tup us)).push (PySem.HandSPX.excO C hp.objs.size)) kk hsz (exo_ok hget)
  have r2 : Vals (V.ref (hp.objs.size + 1) :: vs) (Value.ref (hp.objs.size + 1) :: us) := .cons rfl r1
  have hl : (Value.ref (hp.objs.size + 1) :: us ++ []).length = ps.length := by
    have e := r2.length
    rw [F1.len _ _ _ _ hq] at e
    rw [List.append_nil]
    exact e.symm
  have hus : us.length ≤ sizeLine := by
    rw [← Paired.length r1, sizeLine_eq]
    omega
  have hb2 := hb _ (Value.ref (hp.objs.size + 1) :: us) I2.kIn hl
  rw [List.append_nil] at hb2
  refine wpAny_call (PySem.HandSPX.call_own F.excBase_ValueError (fun Y => PySem.HandSPX.refsVE_contains Y bm hbm) (I1.kIn _ _ hC) (PySem.W.looks_findIn I1.kIn iC) (fun self => PySem.W.bind_fn I1.kIn self tI) hus
    (codeAny_mono (F1.run _ X.stack _ _ ⟨Value.ref (hp.objs.size + 1) :: us, []⟩ (Value.ref (hp.objs.size + 1) :: us) _ _ (fun _ _ _ => False) (hr.make C us []) (I2.env0.make C us []) hb2 r2 hq) fun r s' hq' => ?_))
  cases r with
  | error er => exact hx pins σ _ _ er s' I2 hq'
  | ok fl =>
    cases fl with
    | ret u =>
      obtain ⟨v, H2, os2, bare2, un2, hok2, rv, ev, q2⟩ := hq'
      subst ev
      obtain ⟨h2, g2, d2, t2, os'⟩ := s'
      exact ⟨rv, .ref (hp.objs.size + 1), H2, I2.call' (ch := []) os2 un2 hok2 bare2 (fun b z => absurd z (by simp)), rfl, q2⟩
    | next => exact False.elim hq'
    | brk => exact False.elim hq'
    | cont => exact False.elim hq'
/-- C.m(e, ..), m a def of the class C itself -/
theorem pe_clsdef {CX : CXT} {C f : Addr} {mc : Value} {E : XK} {pl : Sem Bool} (hg : Gl X x) (hm : X.mg x = some (.ref C)) (rd : PySem.W.readsIn X.K C mc = true) (ga : PySem.W.specialIn X.K (.ref C) "__getattribute__" = some (some (.builtin "type.__getattribute__")))
    (fi : PySem.W.findCls X.K (.ref C) mc m = some (.val (.ref f))) (hk : PySem.W.keepIn X.K (.ref f) = true) (F1 : FnOk X.prog X.w X.K X.mg X.base CX k f fd ps sp) (hr : Room k X.A) (hb : Binds X.K fd ps []) (hx : Passes CX X E) (ha : PA X (e :: es) ta)
    (hdb : (x == ("__debug__" : Str)) = false := by decide)
    (hc : eval (.Call (.Attribute (.Name x p1) m p2) (e :: es) [] pos) X.env = (do
      let ov ← eval (.Name x p1) X.env
      standAt p2.atName
      let (f, first) ← holding [ov] (getMethod ov m pl)
      callWith pos f first (backTo pos (starEach (e :: es) X.env)) (backToKw pos (keywordEach [] X.env))) := by rfl)
    (he : starEach (e :: es) X.env = (false, eval e X.env) :: starEach es X.env := by rfl) (hpl : (backTo pos (starEach es X.env)).any (·.1) = false := by rfl) :
    PE X (.Call (.Attribute (.Name x p1) m p2) (e :: es) [] pos) (tCall sp [] E ta) := by
  refine ⟨fun pins s σ H Q I h => ?_⟩
  refine PySem.W.methodCall_KW (ld_glob I hg hm ?_ hdb) hc
  refine PySem.W.method_cls I.kIn ga (PySem.W.cls_value I.kIn rd fi rfl ?_)
  show wpAny _ _ (callWith pos (Value.ref f) [] (backTo pos (starEach (e :: es) X.env)) []) _ _ _
  refine PySem.W.callWith_K (h₀ := X.base) I.ok.mod.kin hk (thn (ha.run pos pins _ σ H _ (I.tok _) h) fun us s1 ⟨vs, H1, I1, r, q⟩ => ⟨I1.kIn, ?_⟩) he hpl
  exact run_fn F1 hr hb .nil hx I1 r q
end
/-! ### what is asked of such an object -/
/-- isinstance(e, c) -/
def rIsX (K : PySem.W.Frag) : List V → Hp → VK → Prop := fun xs H Q => ∃ (a C dd : Addr) (fs : List (Str × V)) (c : V) (cv : Value) (b : Bool), xs = [.ref a, c] ∧ (∀ u, RelV c u → u = cv) ∧ ErrC K C ∧ H a = some (exo a C (some dd)) ∧ H dd = some (exd dd fs) ∧ PySem.W.kitOne K (.ref C) cv = some b ∧ Q (.bl b) H
theorem call_isX {X : Cx} : CallR X (.builtin "isinstance") (rIsX X.K) := by
  intro pins s σ H xs us Q I r h
  obtain ⟨a, C, dd, fs, c, cv, b, rfl, hcv, T, ea, ed, hk, q⟩ := h
  cases r with
  | cons rx rr =>
    cases rr with
    | cons rt rr =>
      cases rr
      cases rx
      have ec := hcv _ rt
      subst ec
      obtain ⟨t1, ho⟩ := exo_at I.hok ea
      obtain ⟨mA, hns, rel⟩ := exd_at I.hok ed
      obtain ⟨od, hod, _⟩ := lookIn_ns hns
      have J : PySem.W.InstAt s.heap a { cls := .ref C, dict := some dd, data := .fields #[.ref t1, .none, .none, .none, .bool false, .none] } C (some od) := ⟨ho, rfl, rfl, hod⟩
      refine PySem.W.kia_one (PySem.W.kitx_exc T.cl T.ga T.gg T.ex T.kc T.sp T.tk T.mo) I.kIn J hk (fun z => nomatch z) ?_
      intro tk
      exact ⟨.bl b, H, I.kept (t' := tk) fun _ _ z => z, rfl, q⟩
/-- e.f -/
def tXo (K : PySem.W.Frag) (f : Str) (te : TE) : TE := fun σ H Q => te σ H fun x H1 => ∃ (a C dd : Addr) (fs : List (Str × V)) (v : V), x = .ref a ∧ XfC K C ∧ PySem.W.findIn K (.ref C) f = some none ∧ H1 a = some (exo a C (some dd)) ∧ H1 dd = some (exd dd fs) ∧ fs.lookup f = some v ∧ Q v H1
theorem pe_xo {X : Cx} {e : Expr} {te : TE} {pos : Pos} {n : Str} (he : PE X e te) (hb : attributeBase e n X.env (eval e X.env) = eval e X.env := by rfl) : PE X (.Attribute e n pos) (tXo X.K n te) := by
  refine ⟨fun pins s σ H Q I h => ?_⟩
  refine attr_of hb (thn (he.run pins s σ H _ I h) fun u s1 hh => ?_)
  obtain ⟨x, H1, I1, rx, a, C, dd, fs, v, ex, T, hno, ea, ed, l, q⟩ := hh
  subst ex
  obtain rfl : u = Value.ref a := rx
  obtain ⟨t1, ho⟩ := exo_at I1.hok ea
  obtain ⟨mA, hns, hr⟩ := exd_at I1.hok ed
  obtain ⟨od, hod, hl⟩ := lookIn_ns hns
  obtain ⟨u, hu, ru⟩ := RelO.some_of (v := v) (o := mA n) (by rw [← l]; exact hr n)
  have J : PySem.W.InstAt s1.heap a { cls := .ref C, dict := some dd, data := .fields #[.ref t1, .none, .none, .none, .bool false, .none] } C (some od) := ⟨ho, rfl, rfl, hod⟩
  exact HandSPX.exc_get I1.kIn J T.ga T.gg T.exC (PySem.W.findObj_own T.hdC hno rfl (by rw [hl, hu])) (handed_of ru) ⟨v, H1, I1.tok _, ru, q⟩
/-! ### the class of all of them -/
def baseB (K : PySem.W.Frag) (C f : Addr) : Bool := PySem.W.readsIn K C (.type "type") && (decide (PySem.W.specialIn K (.ref C) "__getattribute__" = some (some (.builtin "type.__getattribute__"))) && PySem.W.keepIn K (.ref f))
/-- how the class of all of them stands -/
structure BaseK (K : PySem.W.Frag) (mg : Str → Option Value) (nm q : Str) (st : Stmt) where
  C : Addr
  f : Addr
  fd : FuncData
  g : mg nm = some (.ref C)
  F : Fun K "__init__" q st f fd
  b : Binds K fd ["self", "value"] []
  rd : PySem.W.readsIn K C (.type "type") = true
  ga : PySem.W.specialIn K (.ref C) "__getattribute__" = some (some (.builtin "type.__getattribute__"))
  fi : PySem.W.findCls K (.ref C) (.type "type") "__init__" = some (.val (.ref f))
  kp : PySem.W.keepIn K (.ref f) = true
/-- how one of them stands -/
structure ErrK (K : PySem.W.Frag) (mg : Str → Option Value) (nm q : Str) (CM : Addr) (st : Stmt) where
  C : Addr
  f : Addr
  fd : FuncData
  g : mg nm = some (.ref C)
  F : Fun K "__init__" q st f fd
  b : Binds K fd ["self", "value"] []
  x : ErrX K C CM f nm
theorem base_ok {K : PySem.W.Frag} {C f : Addr} (h : baseB K C f = true) : PySem.W.readsIn K C (.type "type") = true ∧ PySem.W.specialIn K (.ref C) "__getattribute__" = some (some (.builtin "type.__getattribute__")) ∧ PySem.W.keepIn K (.ref f) = true := by
  unfold baseB at h
  simp only [Bool.and_eq_true, decide_eq_true_eq] at h
  exact h
/-! ### list.count of truths -/
def eqb (k : Bool) (v : Value) : Bool := match v with
  | .bool n => n == k
  | _ => false
def rCntB (K : PySem.W.Frag) : V → List V → Hp → VK → Prop := fun x xs H Q => ∃ (p : Addr) (ns : List Bool) (k : Bool), x = .ref p ∧ xs = [.bl k] ∧ SqL K H p (ns.map V.bl) ∧ Q (.int (ns.count k : Nat)) H
theorem vals_bl : ∀ {ns : List Bool} {us : List Value}, Vals (ns.map V.bl) us → us = ns.map Value.bool
  | [], us, r => by cases r; rfl
  | n :: ns, us, r => by
    cases r with
    | cons h r2 =>
      have e := vals_bl r2
      rw [e]
      cases (show _ = Value.bool n from h)
      rfl
theorem eqb_count (k : Bool) : ∀ ns : List Bool, (ns.map Value.bool).countP (eqb k) = ns.count k
  | [] => rfl
  | n :: ns => by
    rw [List.map_cons, List.countP_cons, List.count_cons, eqb_count k ns]
    rfl
theorem mt_bcount {X : Cx} : MtR X "list.count" (rCntB X.K) := by
  intro pins s σ H x xs v us Q I rx rxs h
  obtain ⟨p, ns, k, rfl, rfl, hs, q⟩ := h
  cases rx
  obtain ⟨u, rfl, ru⟩ := rxs.one
  obtain rfl : u = Value.bool k := ru
  obtain ⟨its, rv, ⟨⟨cls, dd, data, sl⟩, n, ho, hc, hdn, hd⟩, hlen⟩ := I.list hs
  simp only at hc hd
  subst hc hd
  have hi := vals_bl rv
  subst hi
  refine call_meets PySem.F.slot_list_count ⟨_, ho, rfl⟩ PySem.F.entry_list_count (PySem.F.args_list_count_2 _ _)
    (SeqAt.list_countAt p (ns.map Value.bool).toArray n dd sl (.bool k) (eqb k)) ⟨ho, fun y hy => ?_, ?_⟩
  · have hy' : y ∈ ns.map Value.bool := by simpa using hy
    obtain ⟨b, _, rfl⟩ := List.mem_map.mp hy'
    exact SeqAt.EqAt.bool_bool b k
  have ec : (ns.map Value.bool).toArray.toList.countP (eqb k) = ns.count k := eqb_count k ns
  refine ⟨.int (ns.count k : Nat), H, I.tok _, ⟨s.toks, ?_⟩, q⟩
  show Value.int (((ns.map Value.bool).toArray.toList.countP (eqb k) : Nat) : Int) s.toks = Value.int ((ns.count k : Nat) : Int) s.toks
  rw [ec]
end Jf
set_option Elab.async false
set_option linter.all false
set_option maxRecDepth 100000
set_option maxHeartbeats 4000000
namespace Jf
open PySem PySem.Spec PyProof.Rows L2 Evl
/-- list(xs): a new list, not at sys.modules -/
def rListN (K : PySem.W.Frag) : List V → Hp → VK → Prop := fun xs H Q => ∃ (p : Addr) (ys : List V), xs = [.ref p] ∧ (SqL K H p ys ∨ SqT K H p ys) ∧ ∀ l, H l = none → l ≠ sysModules → Q (.ref l) (upd H l (.lst ys))
theorem call_listN {X : Cx} : CallR X (.type "list") (rListN X.K) := by
  rintro pins s σ H xs us Q I r ⟨p, ys, rfl, from_, k⟩
  obtain ⟨u, rfl, ru⟩ := vals1 r
  cases ru
  have done : ∀ its : List Value, Vals ys its → ys.length ≤ sizeLine → ∀ (h' : Heap) (n : Nat), (∀ b o, s.heap.get? b = some o → h'.get? b = some o) → h'.get? s.heap.objs.size = some { cls := .type "list", dict := none, data := .seq its.toArray n, slots := #[] } →
      EP X pins σ Q (.ref s.heap.objs.size) { s with heap := h' } := by
    intro its vals len h' n kp e
    have hf : H s.heap.objs.size = none := I.hok.fresh (Nat.le_refl _)
    refine ⟨.ref _, upd H _ (.lst ys), I.laid (t' := s.toks) kp (Nat.le_refl _) ?_, rfl, k _ hf (Nat.ne_of_gt I.big)⟩
    exact ⟨len, its, n, vals, e⟩
  rcases from_ with h | h
  · obtain ⟨its, vals, pl, len⟩ := I.list h
    have e := vals.length
    obtain ⟨o, e1, e2, n, e3⟩ := pl.isList
    exact call_list_seq p (.inl rfl) e1 e2 e3 (done its vals len) (by simp only [List.size_toArray]; omega)
  · obtain ⟨its, vals, pl, len⟩ := I.tuple h
    have e := vals.length
    obtain ⟨o, e1, e2, n, e3⟩ := pl
    exact call_list_seq p (.inr rfl) e1 e2 e3 (done its vals len) (by simp only [List.size_toArray]; omega)
end Jf
set_option Elab.async false
set_option linter.all false
set_option maxRecDepth 100000
set_option maxHeartbeats 4000000
namespace Jf
open PySem PySem.Spec PyProof.Rows L2
/-! ### several clauses, each with a name -/
/-- what the clauses wish of an exception of the body, one after the other -/
def wAsM (K : PySem.W.Frag) (Wout : WX) (D : Ends) : List (Value × Nat × (Addr → Value → Option Addr → TS)) → WX
  | [] => Wout
  | (c, i, ts) :: r => fun cls d σ H => ∃ b, PySem.W.exmOne K cls c = some b ∧
      (b = true → ∀ a, H a = none → ts a cls d { nx := fun σ' H' => D.nx (σ'.set i none) H', rt := D.rt, bk := fun σ' H' => D.bk (σ'.set i none) H', ct := fun σ' H' => D.ct (σ'.set i none) H' } (σ.set i (some (.ref a))) H) ∧
      (b = false → wAsM K Wout D r cls d σ H)
inductive HdsAs (X : Cx) : List ExceptHandler → List (Value × Nat × (Addr → Value → Option Addr → TS)) → Prop
  | nil : HdsAs X [] []
  | cons {x n : Str} {c : Value} {i : Nat} {ts : Addr → Value → Option Addr → TS} {b₀ : Stmt} {suite : List Stmt} {np pos' : Pos} {hds : List ExceptHandler} {l : List (Value × Nat × (Addr → Value → Option Addr → TS))}
      (hi : X.N[i]? = some n) (hln : X.env.kindOf n = some .local) (hc : Names X x c)
      (hsu : ∀ (a : Addr) (oe : Obj) (cls : Value) (d : Option Addr) (pn : List (Addr × Obj)), Zc cls d oe → (∃ vs, oe.data = .fields vs) → PSs (X.suite a ((a, oe) :: pn)) (b₀ :: suite) (ts a cls d)) (r : HdsAs X hds l) :
      HdsAs X (.ExceptHandler (some (.Name x np)) (some n) (b₀ :: suite) pos' :: hds) ((c, i, ts) :: l)
section
variable {X : Cx} {body : List Stmt} {h₀ : ExceptHandler} {hds : List ExceptHandler} {l : List (Value × Nat × (Addr → Value → Option Addr → TS))} {pos : Pos} {tb : WX → TS} {Wout : WX}
/-- an error of the body has come to the clauses: where it stands, and the state sI without it -/
structure Came (X : Cx) (pins : List (Addr × Obj)) (σ : L2.St) (H : Hp) (a : Addr) (cls : Value) (d : Option Addr) (B : Heap) (sI s : Shared) (h : Heap) : Prop where
  inv : Inv X pins σ H sI
  nb : ∀ b o, sI.heap.get? b = some o → b ∉ frs X.stack → B.get? b = some o
  free : H a = none
  os : s.os = sI.os
  ag : AllBare s.gens
  fl : HandSPX.FlyingZ B (X.env :: X.outer) a (Zc cls d) h
  up : sI.heap.UpToSlots h
section
variable {pins : List (Addr × Obj)} {σ : L2.St} {H : Hp} {a : Addr} {cls : Value} {d : Option Addr} {B h : Heap} {sI s : Shared} {D : Ends}
theorem Came.again {h' : Heap} (c : Came X pins σ H a cls d B sI s h) (f : HandSPX.FlyingZ B (X.env :: X.outer) a (Zc cls d) h') (u : h.UpToSlots h') : Came X pins σ H a cls d B sI s h' := ⟨c.inv, c.nb, c.free, c.os, c.ag, f, c.up.trans u⟩
theorem Came.here (c : Came X pins σ H a cls d B sI s h) : Inv X pins σ H { s with heap := h } := c.inv.landed c.nb c.fl.1 c.up c.os c.ag
theorem Came.off (hf : X.env.frame = some X.env.locals) (c : Came X pins σ H a cls d B sI s h) : a ≠ X.env.locals ∧ a ∉ X.fs := by
  obtain ⟨o, vs, e1, _, e2⟩ := c.fl.there
  have out : a ∉ frs (X.env :: X.outer) := fun hm => by
    obtain ⟨_, o', e3, n⟩ := c.fl.2.2.1.mem hm
    rw [e1] at e3
    cases e3
    exact n _ e2
  constructor
  · rintro rfl
    exact out (List.mem_filterMap.mpr ⟨X.env, List.mem_cons_self, hf⟩)
  · intro hm
    obtain ⟨e, he, q⟩ := List.mem_filterMap.mp hm
    exact out (List.mem_filterMap.mpr ⟨e, List.mem_cons_of_mem _ he, q⟩)
theorem Came.in (hf : X.env.frame = some X.env.locals) (c : Came X pins σ H a cls d B sI s h) : ∃ o vs, h.get? a = some o ∧ Zc cls d o ∧ o.data = .fields vs ∧ Inv (X.suite a ((a, o) :: (X.pn ++ pins))) [] σ H { s with heap := h } := by
  obtain ⟨o, vs, e1, e2, e3⟩ := c.fl.there
  exact ⟨o, vs, e1, e2, e3, c.here.suite e1 e3 c.free (c.off hf).1 (c.off hf).2⟩
/-- no clause takes it -/
theorem Came.on (hs : X.stack = X.env :: X.outer) (hf : X.env.frame = some X.env.locals) (tk : Takes X Wout) (c : Came X pins σ H a cls d B sI s h) (w : Wout cls d σ H) : wpAny (model X.prog X.w) X.A (handleBy (.ref a) X.env []) (SP X pins D) X.xe { s with heap := h } := by
  obtain ⟨_, _, _, o, vs, T, _, _, e1, _, e3, e4, _⟩ := id c.fl
  have last : wpAny (model X.prog X.w) X.A (setFlight (.ref a) X.env.frame) (fun _ s₁ => wpAny (model X.prog X.w) X.A (throw (.ref a) : Sem Flow) (SP X pins D) X.xe s₁) X.xe { s with heap := h } := by
    rw [hf]
    exact HandSPX.setFlight_upZ c.fl fun h' held u => wpAny_throw (tk _ _ ⟨a, B, sI, pins, σ, H, cls, d, rfl, c.inv, c.nb, c.up.trans u, .inr (.inr (hs ▸ held)), c.free, c.os, c.ag, w⟩)
  refine wpAny_handleBy_nil ?_
  unfold PySem.passOn
  refine wpAny_bind (wpAny_field e1 e3 e4 ?_)
  rw [if_neg (by simp : ¬ ((Value.ref T == Value.none) = true))]
  first
    | exact wpAny_bind last
    | exact wpAny_bind (wpAny_pure (wpAny_bind last))
/-- one takes it: its suite -/
theorem Came.go {i : Nat} {n : Str} {b₀ : Stmt} {suite : List Stmt} {pos' : Pos} {ts : Addr → Value → Option Addr → TS} (ok : Cx.Ok X) (hN : X.N.Nodup) (hf : X.env.frame = some X.env.locals) (hi : X.N[i]? = some n) (hln : X.env.kindOf n = some .local)
    (hsu : ∀ (a : Addr) (oe : Obj) (cls : Value) (d : Option Addr) (pn : List (Addr × Obj)), Zc cls d oe → (∃ vs, oe.data = .fields vs) → PSs (X.suite a ((a, oe) :: pn)) (b₀ :: suite) (ts a cls d)) (c : Came X pins σ H a cls d B sI s h)
    (w : ts a cls d { nx := fun σ' H' => D.nx (σ'.set i none) H', rt := D.rt, bk := fun σ' H' => D.bk (σ'.set i none) H', ct := fun σ' H' => D.ct (σ'.set i none) H' } (σ.set i (some (.ref a))) H) (o : Obj) (vs : Array Value)
    (e2 : Zc cls d o) (e3 : o.data = .fields vs) (S : Inv (X.suite a ((a, o) :: (X.pn ++ pins))) [] σ H { s with heap := h })
    {R : Flow → Shared → Prop} {Ee Eo : Value → Shared → Prop} (hR : ∀ f s', SP X pins D f s' → R f s') :
    wpAny (model X.prog X.w) (X.A.mark (some (.ref a))) (storeName X.env n (.ref a)) (fun _ s₁ => wpAny (model X.prog X.w) (X.A.mark (some (.ref a))) (execs (b₀ :: suite) X.env) (fun f s₂ =>
      wpAny (model X.prog X.w) X.A (do bindName X.env n .none; unbindBehindTheSuite X.env n pos') (fun _ s₃ => R f s₃) X.xe s₂) Ee s₁) Eo { s with heap := h } := by
  refine store_ok (X := X.suite a ((a, o) :: (X.pn ++ pins))) (v := .ref a) S hN hi (.inl hln) rfl (fun s₁ S₁ => ?_) (.inr hln)
  refine wpAny_mono ((hsu a o cls d (X.pn ++ pins) e2 ⟨_, e3⟩).run [] s₁ _ H _ S₁ w) (fun f s₂ q => ?_) fun _ _ z => z.elim
  have close : ∀ {σ₂ : L2.St} {H₂ : Hp}, Inv (X.suite a ((a, o) :: (X.pn ++ pins))) [] σ₂ H₂ s₂ → (∀ s₃, Inv X pins (σ₂.set i none) H₂ s₃ → R f s₃) → wpAny (model X.prog X.w) X.A (do bindName X.env n .none; unbindBehindTheSuite X.env n pos') (fun _ s₃ => R f s₃) X.xe s₂ :=
    fun S₂ k => gone_ok (S₂.unsuite ok) hN hi hln k
  match f, q with
  | .next, ⟨_, _, S₂, q₂⟩ => exact close S₂ fun _ J => hR _ _ ⟨_, _, J, q₂⟩
  | .brk, ⟨_, _, S₂, q₂⟩ => exact close S₂ fun _ J => hR _ _ ⟨_, _, J, q₂⟩
  | .cont, ⟨_, _, S₂, q₂⟩ => exact close S₂ fun _ J => hR _ _ ⟨_, _, J, q₂⟩
  | .ret _, ⟨_, _, _, S₂, r, q₂⟩ => exact close S₂ fun _ J => hR _ _ ⟨_, _, _, J, r, q₂⟩
/-- the clauses, from the first on -/
theorem Came.through (ok : Cx.Ok X) (hs : X.stack = X.env :: X.outer) (hf : X.env.frame = some X.env.locals) (hN : X.N.Nodup) (tk : Takes X Wout) : ∀ {hds : List ExceptHandler} {l : List (Value × Nat × (Addr → Value → Option Addr → TS))} {h : Heap}, HdsAs X hds l → Came X pins σ H a cls d B sI s h →
    wAsM X.K Wout D l cls d σ H → wpAny (model X.prog X.w) X.A (handleBy (.ref a) X.env hds) (SP X pins D) X.xe { s with heap := h }
  | _, _, _, .nil, c, w => c.on hs hf tk w
  | _, _, h, .cons (x := x) (c := cv) (np := np) hi hln hc hsu r, c, ⟨b, hb, yes, no⟩ => by
    obtain ⟨o, vs, e1, e2, e3, S⟩ := c.in hf
    have name : ∀ {Q E : Value → Shared → Prop}, Q cv { s with heap := h } → wpAny (model X.prog X.w) (X.A.mark (some (.ref a))) (eval (.Name x np) X.env) Q E { s with heap := h } := fun {Q E} q => by
      rcases hc with ⟨g, nd, m | ⟨m, v, nn⟩⟩
      · exact ld_glob (X := X.suite a ((a, o) :: (X.pn ++ pins))) S g m q nd
      · exact ld_blt (X := X.suite a ((a, o) :: (X.pn ++ pins))) S g m v q nn nd
    have of : PySem.W.Looks (model X.prog X.w) h (typeOf (.ref a)) cls := fun _ _ _ _ k q => wpAny_typeOf_ref (k _ _ e1) (by rw [e2.1]; exact q)
    refine wpAny_handleBy_cons (codeAny_handlers_test (name ((PySem.W.exm_one (M := model X.prog X.w) c.here.kIn of hb).here ?_))) (by intro z; cases z)
    match b, yes, no with
    | false, _, no => exact Came.through ok hs hf hN tk r c (no rfl)
    | true, yes, _ =>
      refine codeAny_handlers_suite_as (HandSPX.lands_againZ c.fl fun h' f' u => ?_)
      have c' := c.again f' u
      obtain ⟨o', vs', _, e2', e3', S'⟩ := c'.in hf
      exact c'.go ok hN hf hi hln hsu (yes rfl a c.free) o' vs' e2' e3' S' fun f s' q => by
        cases f <;> exact q
end
theorem ps_try_asM (hs : X.stack = X.env :: X.outer) (hf : X.env.frame = some X.env.locals) (hN : X.N.Nodup) (tk : Takes X Wout)
    (hb : ∀ (W : WX) (pn : List (Addr × Obj)) (xe : Value → Shared → Prop), Takes (X.tr pn xe) W → PassesOwn (model X.prog X.w) X.A X.env xe → PSs (X.tr pn xe) body (tb W))
    (hh : HdsAs X (h₀ :: hds) l) : PS X (.Try body (h₀ :: hds) [] [] pos) (fun D σ H => tb (wAsM X.K Wout D l) D σ H) := by
  refine ⟨fun pins s σ H D I w => wpAny_Try_except ?_⟩
  have ok := I.ok
  refine wpAny_mono ((hb (wAsM X.K Wout D l) (X.pn ++ pins) (fun e s₁ => wpAny (model X.prog X.w) X.A (noteFrame e X.env) (fun _ s₂ => wpAny (model X.prog X.w) X.A (setFlight e none) (fun _ s₃ =>
    wpAny (model X.prog X.w) X.A (handleBy e X.env (h₀ :: hds)) (SP X pins D) X.xe s₃) X.xe s₂) X.xe s₁) ?_ PassesOwn.looking).run [] s σ H D (I.toTry _) w) ?_ fun _ _ z => z
  · rintro u s' ⟨a, B, sI, _, σ', H', cls, d, rfl, J, nb, up, sky, na, os, ag, w'⟩
    exact Sky.land Zc.steady (ok.frames.trans (by rw [hs])) hf (hs ▸ sky) fun h' fl up' => Came.through ok hs hf hN tk hh ⟨J.ofTry ok, nb, na, os, ag, fl, up.trans up'⟩ w'
  · rintro f s' q
    match f, q with
    | .next, ⟨_, _, J, q⟩ => exact wpAny_execs_nil ⟨_, _, J.ofTry ok, q⟩
    | .brk, ⟨_, _, J, q⟩ => exact ⟨_, _, J.ofTry ok, q⟩
    | .cont, ⟨_, _, J, q⟩ => exact ⟨_, _, J.ofTry ok, q⟩
    | .ret _, ⟨_, _, _, J, r, q⟩ => exact ⟨_, _, _, J.ofTry ok, r, q⟩
end
end Jf
set_option Elab.async false
set_option linter.all false
set_option maxRecDepth 100000
set_option maxHeartbeats 4000000
namespace Jf
open PySem PySem.Spec PyProof.Rows L2 HT
/-! ### t[::-1] of a tuple -/
section
variable {prog : Program} {w : World} {A : Around} {E : Value → Shared → Prop} {s : Shared}
theorem rev_adjust (n : Nat) : Builtin.Slice.sliceAdjust none none (-1) (n : Int) = ((n : Int) - 1, -1) := by
  unfold Builtin.Slice.sliceAdjust
  simp
theorem rev_places (n : Nat) : Builtin.Slice.slicePlaces ((n : Int) - 1) (-1) (-1) = n := by
  unfold Builtin.Slice.slicePlaces
  have h1 : ¬ ((-1 : Int) > 0) := by decide
  simp only [h1, if_false]
  by_cases h : (n : Int) - 1 > -1
  · rw [if_pos h, show (- -1 : Int) = 1 by decide, Int.ediv_one]
    omega
  · rw [if_neg h]
    omega
theorem sliceApplied_rev {sl : Addr} {vl vu vs : Value} {n : Nat} {Q : Int × Int × Nat → Shared → Prop} (hs : s.heap.IsSliceOf sl vl vu vs) (pl : IsPart vl none) (pu : IsPart vu none) (ps : IsPart vs (some (-1)))
    (h : Q ((n : Int) - 1, -1, n) s) : wpAny (model prog w) A (Builtin.Slice.sliceApplied (.ref sl) (pure (n : Int))) Q E s := by
  obtain ⟨os, hos, hcs, hds⟩ := id hs
  unfold Builtin.Slice.sliceApplied Builtin.Slice.sliceFields
  refine wpAny_bind (wpAny_bind (wpAny_field hos hds (x := vl) rfl (wpAny_bind (wpAny_field hos hds (x := vu) rfl (wpAny_bind (wpAny_field hos hds (x := vs) rfl (wpAny_pure ?_)))))))
  refine wpAny_bind (slicePart_ ps ?_)
  show wpAny _ _ (if ((-1 : Int) == 0) = true then _ else _) _ _ s
  rw [if_neg (by decide)]
  refine wpAny_bind (slicePart_ pl (wpAny_bind (slicePart_ pu (wpAny_bind (wpAny_pure ?_)))))
  show wpAny _ _ (match Builtin.Slice.sliceAdjust none none (-1) (n : Int) with | (lo, hi) => pure (lo, (-1 : Int), Builtin.Slice.slicePlaces lo hi (-1))) _ _ s
  rw [rev_adjust n]
  show wpAny _ _ (pure ((n : Int) - 1, (-1 : Int), Builtin.Slice.slicePlaces ((n : Int) - 1) (-1) (-1))) _ _ s
  rw [rev_places]
  exact wpAny_pure h
theorem pick_rev (xs : Array Value) : ((List.range xs.size).filterMap fun (m : Nat) => xs[((xs.size : Int) - 1 + (m : Int) * (-1)).toNat]?).toArray = xs.toList.reverse.toArray := by
  have e : (fun (m : Nat) => xs[((xs.size : Int) - 1 + (m : Int) * (-1)).toNat]?) = fun m => xs[xs.size - 1 - m]? := by
    funext m
    have : ((xs.size : Int) - 1 + (m : Int) * (-1)).toNat = xs.size - 1 - m := by omega
    rw [this]
  rw [e]
  have e2 : ((List.range xs.size).filterMap fun m => xs[xs.size - 1 - m]?) = ((List.range xs.size).map fun m => xs.size - 1 - m).filterMap (xs[·]?) := by
    rw [List.filterMap_map]
    rfl
  rw [e2, PySem.W.krv_range, List.filterMap_reverse, PySem.W.krv_all]
theorem getItem_tuple_rev {t sl : Addr} {items : Array Value} {vl vu vs : Value} {Q : Value → Shared → Prop} (ht : IsTup s.heap t items) (hs : s.heap.IsSliceOf sl vl vu vs) (pl : IsPart vl none) (pu : IsPart vu none) (ps : IsPart vs (some (-1)))
    (h : Q (.ref s.heap.objs.size) { s with heap := s.heap.push { cls := .type "tuple", data := .seq items.toList.reverse.toArray } })
    (hsz : items.size ≤ sizeLine) : wpAny (model prog w) A (getItem (.ref t) (.ref sl)) Q E s := by
  have htake : sizeOk (.seq items.toList.reverse.toArray) := by
    show items.toList.reverse.toArray.size ≤ sizeLine
    rw [List.size_toArray, List.length_reverse, Array.length_toList]
    exact hsz
  obtain ⟨os, hos, hcs, hds⟩ := id hs
  have hTs : s.TypeIs (.ref sl) "slice" := ⟨os, hos, hcs⟩
  unfold getItem
  try with_reducible refine wpAny_holding ?_
  first | refine wpAny_bind (wpAny_pure ?_) | skip
  refine wpAny_bind (wpAny_sequenceKey ht.typeIs (by decide) ?_)
  refine wpAny_bind (wpAny_callSpecial?_slot (name := Str.ofString "__getitem__") ht.typeIs PyProof.Rows.slot_tuple_getitem
    (wpAny_call_entry PyProof.Rows.slot_tuple_getitem ht.typeIs entry_tuple_getitem ?_ (args_tuple_getitem _ _)))
  show wpAny _ _ (Builtin.Tuple.tupleItemsOf (.ref t) >>= _) _ _ s
  refine wpAny_bind (tupleItemsOf_ ht ?_)
  refine wpAny_bind (wpAny_typeOf hTs ?_)
  rw [if_pos (by decide)]
  refine wpAny_bind (sliceApplied_rev hs pl pu ps ?_)
  have hno : ¬ ((((items.size : Int) - 1) == 0 && (-1 : Int) == 1 && items.size == items.size) = true) := by
    intro q
    rw [Bool.and_eq_true, Bool.and_eq_true] at q
    exact absurd q.1.2 (by decide)
  show wpAny _ _ (if (((items.size : Int) - 1) == 0 && (-1 : Int) == 1 && items.size == items.size) = true then _ else _) _ _ s
  rw [if_neg hno, pick_rev]
  first
    | exact wpAny_bind (m := Builtin.Tuple.tupleExact _) (wpAny_newObj_type (wpAny_pure ⟨_, rfl, wpAny_pure h⟩) htake)
    | exact wpAny_bind (m := Builtin.Tuple.tupleExact _) (wpAny_newObj_type (wpAny_bind (wpAny_pure (wpAny_pure ⟨_, rfl, wpAny_pure h⟩))) htake)
    | exact wpAny_bind (wpAny_bind (m := Builtin.Tuple.tupleExact _) (wpAny_newObj_type (wpAny_pure (wpAny_pure ⟨_, rfl, wpAny_pure h⟩)) htake))
    | exact wpAny_bind (wpAny_bind (m := Builtin.Tuple.tupleExact _) (wpAny_newObj_type (wpAny_pure ⟨_, rfl, wpAny_pure h⟩) htake))
end
def tRevT (K : PySem.W.Frag) (te : TE) : TE := fun σ H Q => te σ H fun x H1 => ∃ a xs, x = .ref a ∧ SqT K H1 a xs ∧ ∀ p, H1 p = none → Q (.ref p) (upd H1 p (.tup xs.reverse))
theorem pe_revT {X : Cx} {e : Expr} {te : TE} {k : Nat} {p1 p2 p3 pos : Pos} (he : PE X e te) : PE X (.Subscript e (.Slice none none (some (.UnaryOp .USub (.Constant (.int 1) k p1) p2)) p3) pos) (tRevT X.K te) := by
  refine ⟨fun pins s σ H Q I h => ?_⟩
  refine Subscript_ (thn (he.run pins s σ H _ I h) fun v s1 ⟨x, H1, I1, r1, q1⟩ => ?_)
  obtain ⟨a, xs, ex, hx, q⟩ := q1
  subst ex
  cases r1
  have hst : PO X (some (.UnaryOp .USub (.Constant (.int 1) k p1) p2)) (tPart (tUn (rU fun i => .int (-i)) (tC (.int 1)))) := po_some (pe_un un_neg pe_int)
  refine wpAny_Slice (thn (po_none.run pins s1 σ H1 (fun o H2 => o = none ∧ H2 = H1) I1 ⟨rfl, rfl⟩) fun vl s2 ⟨l, H2, I2, pl, el, e2⟩ => ?_)
  subst el e2
  refine thn (po_none.run pins s2 σ H2 (fun o H3 => o = none ∧ H3 = H2) I2 ⟨rfl, rfl⟩) fun vu s3 ⟨u, H3, I3, pu, eu, e3⟩ => ?_
  subst eu e3
  refine thn (hst.run pins s3 σ H3 (fun o H4 => o = some (-1) ∧ H4 = H3) I3 ⟨1, rfl, -1, rfl, rfl, rfl⟩) fun vs s4 ⟨o, H4, I4, ps, eo, e4⟩ => ?_
  subst eo e4
  have I5 : Inv X pins σ H4 { s4 with heap := s4.heap.push { cls := .type "slice", data := .fields #[vl, vu, vs] } } := I4.kept (t' := s4.toks) fun b ob q => Heap.get?_push_of_some _ q
  obtain ⟨its, r, ht, hz⟩ := I5.tuple hx
  have hlen := r.length
  show wpAny (model X.prog X.w) X.A (subscriptTail e (.Slice none none (some (.UnaryOp .USub (.Constant (.int 1) k p1) p2)) p3) (.ref a) (.ref s4.heap.objs.size)) (EP X pins σ Q) X.xe { s4 with heap := s4.heap.push { cls := .type "slice", data := .fields #[vl, vu, vs] } }
  refine tail_any (ops := [.ref a, .ref s4.heap.objs.size]) ht.typeIs (PyProof.Rows.slot_tuple_getitem.lookup) ?_ (by with_unfolding_all rfl)
  refine getItem_tuple_rev ht (Heap.IsSliceOf.new _ vl vu vs) pl pu ps ?_ (by rw [List.size_toArray]; omega)
  refine ⟨.ref _, _, I5.laid (t' := s4.toks) (o := .tup xs.reverse) (fun b ob q => Heap.get?_push_of_some _ q) (Nat.le_refl _) ?_, rfl, q _ (I5.hok.fresh (Nat.le_refl _))⟩
  exact ⟨by rw [List.length_reverse]; exact hz, _, r.reverse, IsTup.new _ _⟩
end Jf
set_option Elab.async false
set_option linter.all false
set_option maxRecDepth 100000
set_option maxHeartbeats 4000000
namespace Jf
open PySem PySem.Spec PyProof.Rows L2 Evl GxR
/-! ### all but tables stays -/
def ExT (H H' : Hp) : Prop := ∀ b o, (∀ ps, o ≠ HO.tbl ps) → H b = some o → H' b = some o
/-- tables of generators; tables of lambdas, with the lambdas' name -/
abbrev TbS := List Addr × List (Addr × Str)
structure TBs (Ts : TbS) (H : Hp) : Prop where
  g : ∀ t ∈ Ts.1, TabG H t
  s : ∀ q ∈ Ts.2, LamX.TabS H q.1 q.2
  ne : ∀ t ∈ Ts.1, ∀ q ∈ Ts.2, q.1 ≠ t
section
variable {K : PySem.W.Frag} {p a : Addr} {Ts : TbS} {H H1 H2 H' : Hp} {xs : List V} {v : V} {d : PyData} {b : Nat} {q : Rat}
theorem ExT.refl (H : Hp) : ExT H H := fun _ _ _ h => h
theorem ExT.trans (e : ExT H H1) (e' : ExT H1 H2) : ExT H H2 := fun b o n h => e' b o n (e b o n h)
theorem Ex.t (e : Ex H H') : ExT H H' := fun b o _ h => e b o h
theorem ExT.l (e : ExT H H') (h : H a = some (.lst xs)) : H' a = some (.lst xs) := e a _ (fun _ z => nomatch z) h
theorem ExT.k {kvs : List (Key × V)} (e : ExT H H') (h : H a = some (.dK kvs)) : H' a = some (.dK kvs) := e a _ (fun _ z => nomatch z) h
theorem ExT.sl (e : ExT H H') (h : SqL K H a xs) : SqL K H' a xs := by
  rcases h with (h | ⟨o, h⟩) | h
  · exact .inl (.inl (e a _ (fun _ z => nomatch z) h))
  · exact .inl (.inr ⟨o, e a _ (fun _ z => nomatch z) h⟩)
  · exact .inr h
theorem ExT.st (e : ExT H H') (h : SqT K H a xs) : SqT K H' a xs := by
  rcases h with (h | ⟨o, h⟩) | h
  · exact .inl (.inl (e a _ (fun _ z => nomatch z) h))
  · exact .inl (.inr ⟨o, e a _ (fun _ z => nomatch z) h⟩)
  · exact .inr h
end
section
variable {K : PySem.W.Frag} {p : Addr} {H H' : Hp}
mutual
theorem Dq.xt (e : ExT H H') : ∀ (d : PyData) (v : V), Dq K p H v d → Dq K p H' v d
  | _, _, .non => .non
  | _, _, .bl b => .bl b
  | _, _, .int i => .int i
  | _, _, .str x => .str x
  | _, _, .lst n m h hs => .lst n m (ExT.l e h) (DqAll.xt e _ _ hs)
  | _, _, .tup h hs => .tup (ExT.st e h) (DqAll.xt e _ _ hs)
  | _, _, .emp h => .emp (ExT.k e h)
theorem DqAll.xt (e : ExT H H') : ∀ (ds : List PyData) (vs : List V), DqAll K p H vs ds → DqAll K p H' vs ds
  | _, _, .nil => .nil
  | _, _, .cons h hs => .cons (Dq.xt e _ _ h) (DqAll.xt e _ _ hs)
end
end
section
variable {K : PySem.W.Frag} {p a : Addr} {Ts : TbS} {H H1 H2 H' : Hp} {xs : List V} {v : V} {d : PyData} {b : Nat} {q : Rat}
theorem Fr.xt (e : ExT H H') (h : Fr K b q v H) : Fr K b q v H' := by
  obtain ⟨a, rfl, h, x⟩ := h
  exact ⟨a, rfl, e.st h, x⟩
theorem TBs.ex (h : TBs Ts H) (e : Ex H H') : TBs Ts H' := ⟨fun t ht => by
    obtain ⟨ps, h1, h2⟩ := h.g t ht
    exact ⟨ps, e _ _ h1, h2⟩, fun q hq => (h.s q hq).ext e, h.ne⟩
/-- a change at what is no table and no code -/
theorem TBs.keep (h : TBs Ts H) (h1 : ∀ ps, H p ≠ some (.tbl ps)) (h2 : ∀ f, H p ≠ some (.ext f)) (e : ∀ b o, b ≠ p → H b = some o → H' b = some o) : TBs Ts H' := ⟨fun t ht => by
    obtain ⟨ps, e1, e2⟩ := h.g t ht
    exact ⟨ps, e _ _ (by rintro rfl; exact h1 _ e1) e1, e2⟩, fun q hq => by
    obtain ⟨ps, e1, e2, e3⟩ := h.s q hq
    refine ⟨ps, e _ _ (by rintro z; rw [z] at e1; exact h1 _ e1) e1, e2, fun pos cv hc => ?_⟩
    obtain ⟨c, k1, k2⟩ := e3 pos cv hc
    exact ⟨c, k1, e _ _ (by rintro rfl; exact h2 _ k2) k2⟩, h.ne⟩
/-- a list's change leaves the tables -/
theorem TBs.upd {xs ys : List V} (h : TBs Ts H) (hp : H p = some (.lst xs)) (e : ∀ b o, b ≠ p → H b = some o → H' b = some o) : TBs Ts H' := h.keep (fun ps => by rw [hp]; exact (nofun)) (fun f => by rw [hp]; exact (nofun)) e
theorem Tabd.t {T : Addr} (h : TabG H T) (t : Tabbed T H H') : ExT H H' := fun b o n e => by
  have hb : b ≠ T := by
    rintro rfl
    obtain ⟨ps, h1, _⟩ := h
    rw [e] at h1
    exact n ps (Option.some.inj h1)
  rw [t.2 b hb]
  exact e
theorem TBs.tb {T : Addr} (h : TBs Ts H) (t : Tabbed T H H') (m : T ∈ Ts.1) : TBs Ts H' := ⟨fun t' ht => by
    by_cases e : t' = T
    · subst e
      exact t.1
    · obtain ⟨ps, h1, h2⟩ := h.g t' ht
      exact ⟨ps, by rw [t.2 t' e]; exact h1, h2⟩, fun q hq => by
    obtain ⟨ps, e1, e2, e3⟩ := h.s q hq
    obtain ⟨ps', g1, _⟩ := h.g T m
    refine ⟨ps, by rw [t.2 _ (h.ne T m q hq)]; exact e1, e2, fun pos cv hc => ?_⟩
    obtain ⟨c, k1, k2⟩ := e3 pos cv hc
    refine ⟨c, k1, ?_⟩
    rw [t.2 c (by rintro rfl; rw [g1] at k2; exact LamX.codeO_ne ps' (Option.some.inj k2).symm)]
    exact k2, h.ne⟩
end
/-- a list and another: a new list, not sys.modules -/
def rCatN : R2 := fun x y H Q => ∃ l b xs zs, x = .ref l ∧ y = .ref b ∧ H l = some (.lst xs) ∧ H b = some (.lst zs) ∧ xs.length + zs.length ≤ sizeLine ∧ ∀ p, H p = none → p ≠ sysModules → Q (.ref p) (upd H p (.lst (xs ++ zs)))
theorem op_catN {X : Cx} : OpR X (binaryOp .Add) rCatN := by
  intro pins s σ H x y v u Q I rx ry h
  obtain ⟨l, b, xs, zs, rfl, rfl, hH, hB, hz, q⟩ := h
  cases rx
  cases ry
  obtain ⟨z, its, n, r, hl, e⟩ := I.lstM hH
  obtain ⟨z2, its2, n2, r2, hl2, e2⟩ := I.lstM hB
  refine PySem.P.add_list e e2 ?_ (by rw [List.size_toArray, List.size_toArray]; omega)
  have ea : its.toArray ++ its2.toArray = (its ++ its2).toArray := by simp
  rw [ea]
  exact ⟨.ref _, _, I.lnew (t' := s.toks) (r.append r2) (by rw [List.length_append]; omega), rfl, q _ I.fresh (Nat.ne_of_gt I.big)⟩
/-- a field of the error that a suite holds, whichever of our classes it is of -/
def tXfE (K : PySem.W.Frag) (a : Addr) (cls : Value) (d : Option Addr) (f : Str) (te : TE) : TE := fun σ H Q => te σ H fun x H1 => x = .ref a ∧ ∃ (C dd : Addr) (fs : List (Str × V)) (v : V), cls = .ref C ∧ XfC K C ∧ PySem.W.findIn K (.ref C) f = some none ∧ d = some dd ∧ H1 dd = some (.xd fs) ∧ fs.lookup f = some v ∧ Q v H1
theorem pe_xfE {X : Cx} {a : Addr} {oe : Obj} {cls : Value} {d : Option Addr} {pn : List (Addr × Obj)} {e : Expr} {te : TE} {pos : Pos} {n : Str}
    (hz : Zc cls d oe) (hf : ∃ vs, oe.data = .fields vs) (he : PE (X.suite a ((a, oe) :: pn)) e te) (hb : attributeBase e n X.env (eval e X.env) = eval e X.env := by rfl) :
    PE (X.suite a ((a, oe) :: pn)) (.Attribute e n pos) (tXfE X.K a cls d n te) := by
  refine ⟨fun pins s σ H Q I h => ?_⟩
  refine attr_of hb (thn (he.run pins s σ H _ I h) fun u s1 hh => ?_)
  obtain ⟨x, H1, I1, rx, ex, C, dd, fs, v, ec, T, hno, ed, ea, l, q⟩ := hh
  subst ex
  obtain rfl : u = Value.ref a := rx
  subst ec
  subst ed
  have ha := (I1.pin (a, oe) (List.mem_append_left _ List.mem_cons_self)).1
  obtain ⟨vs, hd⟩ := hf
  have hx : ObjOk X.prog X.w H1 s1.heap dd (.xd fs) := I1.hok dd _ ea
  obtain ⟨mA, hns, hr⟩ := hx
  obtain ⟨od, ho, hl⟩ := lookIn_ns hns
  obtain ⟨u, hu, ru⟩ := RelO.some_of (v := v) (o := mA n) (by rw [← l]; exact hr n)
  have J : PySem.W.InstAt s1.heap a oe C (some od) := ⟨ha, hz.1, by unfold PySem.W.notCls; rw [hd] <;> rfl, by rw [hz.2]; exact ho⟩
  exact HandSPX.exc_get I1.kIn J T.ga T.gg T.exC (PySem.W.findObj_own T.hdC hno rfl (by rw [hl, hu])) (handed_of ru) ⟨v, H1, I1.tok _, ru, q⟩
end Jf
set_option Elab.async false
set_option linter.all false
set_option maxRecDepth 100000
set_option maxHeartbeats 4000000
/-! ### enumerate(x, start=c) of a list -/
namespace PySem
open PyProof.Rows
section
variable {M : Model} {A : Around} {E : Value → Shared → Prop} {s : Shared} {env : Env}
/-- a built-in class called with keywords -/
theorem jk_callWith {pos : Pos} {T : String} {e : Expr} {rest : List Expr} {kws : List Keyword} {Q : Value → Shared → Prop}
    (h : wpAny M A (spliced (backTo pos (starEach (e :: rest) env))) (fun vs s₁ => wpAny M A (evalAll ((backToKw pos (keywordEach kws env)).map (·.2)))
      (fun kvs s₂ => wpAny M A (call (.type T) vs (((backToKw pos (keywordEach kws env)).filterMap (·.1)).zip kvs)) Q E s₂) E s₁) E s)
    (he : backTo pos (starEach (e :: rest) env) = (false, eval e env) :: backTo pos (starEach rest env) := by rfl)
    (hplain : (backTo pos (starEach (e :: rest) env)).any (·.1) = false := by rfl)
    (hall : (backToKw pos (keywordEach kws env)).all (·.1.isSome) = true := by rfl)
    (hkw : (backToKw pos (keywordEach kws env)).any (·.1.isNone) = false := by rfl) :
    wpAny M A (callWith pos (.type T) [] (backTo pos (starEach (e :: rest) env)) (backToKw pos (keywordEach kws env))) Q E s := by
  unfold callWith
  have h0 : wpAny M A (evalArgs (.type T) true (backTo pos (starEach (e :: rest) env)) (backToKw pos (keywordEach kws env))) (fun a s₁ => wpAny M A (call (.type T) ([] ++ a.pos) a.kw) Q E s₁) E s := by
    rw [he] at h ⊢
    exact evalArgs_kwB hall h
  refine wpAny_bind (wpAny_holding (wpAny_mono h0 (fun a s₁ h₁ => wpAny_bind (wpAny_standAt ?_)) fun _ _ x => x))
  simp only [hplain, hkw, Bool.or_false]
  refine wpAny_bind (wpAny_pure ?_)
  exact wpAny_bind (wpAny_mono h₁ (fun r s₂ hr => wpAny_bind (wpAny_holding (wpAny_point (wpAny_pure hr)))) fun _ _ x => x)
end
section
variable {prog : Program} {w : World} {A : Around} {E : Value → Shared → Prop} {s : Shared} {e it t : Addr} {i : Nat} {m : Int} {items : Array Value} {x old : Value}
theorem jk_enumE {Q : Option Value → Shared → Prop} (hh : A.handled = none) (he : IsEnum s.heap e it m old) (a : s.heap.IsListIter it t i) (b : s.heap.IsList t items) (hx : items[i]? = none) (k : ∀ h', Heap.ExtBut it s.heap h' → Q none { s with heap := h' }) :
    wpAny (model prog w) A (pyNext (.ref e)) Q E s := by
  have T : s.TypeIs (.ref e) "enumerate" := ⟨_, he, rfl⟩
  unfold pyNext
  refine wpAny_bind (wpAny_attempt (wpAny_callSpecial?_slot (name := Str.ofString "__next__") T F.slot_enumerate_next (wpAny_call_entry F.slot_enumerate_next T F.entry_enumerate_next
    (wpAny_bind (m := field (.ref e) 2) (wpAny_field he rfl (x := .ref it) rfl (wpAny_bind (wpAny_nextOf_list_end hh a b hx fun h' y g ⟨o, g1, g2⟩ => ?_)))) (F.args_enumerate_next_1 _))))
  exact wpAny_bind (wpAny_isInstance (T := "StopIteration") (b := true) ⟨o, g1, g2⟩ isSubtype_stop (wpAny_pure (k _ g)))
end
end PySem
namespace Jf
open PySem PySem.Spec PyProof.Rows L2 Evl
/-- the list at a, each item in a new pair with its number, counted from c -/
def IteK (K : PySem.W.Frag) (a : Addr) (c : Int) : It :=
  ⟨fun i H => ∃ (xs : List V) (x : V), SqL K H a xs ∧ xs[i]? = some x, fun i H v H' => ∃ T x, v = .ref T ∧ H T = none ∧ H' = upd H T (.tup [.int (c + (i : Nat)), x]) ∧ ∀ xs, SqL K H a xs → xs[i]? = some x, fun i H => ∃ xs : List V, SqL K H a xs ∧ xs.length ≤ i⟩
theorem turn_enumK {P : Program} {w : World} {K : PySem.W.Frag} {elts : List Expr} {kk : Nat} {tpos : Pos} (a e it : Addr) (c : Int) :
    Turn P w K (.Tuple elts kk tpos) (IteK K a c) [e, it] e (fun i h => (∃ old, IsEnum h e it (c + ((i : Nat) : Int)) old) ∧ h.IsListIter it a i ∧ e ≠ it) where
  mem := by simp
  obj := fun i h st b hb => by
    obtain ⟨⟨old, he⟩, ⟨o, ho, hc, hd⟩, _⟩ := st
    have e' : b = e ∨ b = it := by simpa using hb
    rcases e' with z | z
    · rw [z]; exact ⟨_, he, fun v q => nomatch q⟩
    · rw [z]; exact ⟨o, ho, fun v q => by rw [hd] at q; cases q⟩
  keep := fun i h h' st k => let ⟨⟨old, he⟩, hi, hne⟩ := st; ⟨⟨old, k e (by simp) _ he⟩, hi.at fun o q => k it (by simp) o q, hne⟩
  item := by
    intro X hP hw hK hc i pins s σ H E I hf st hg
    subst hP hw hK
    obtain ⟨⟨old, he⟩, hit, hne⟩ := st
    obtain ⟨xs, x, hq, hx⟩ := hg
    obtain ⟨its, rv, p, hz⟩ := I.list hq
    obtain ⟨u, hu, ru⟩ := rv.get hx
    have hel : e < s.heap.objs.size := Heap.lt_size he
    have hil : it < s.heap.objs.size := by obtain ⟨_, q, _⟩ := hit; exact Heap.lt_size q
    have ea : e ≠ a := by
      rintro rfl
      obtain ⟨o, h1, h2, _⟩ := p.isList
      rw [he] at h1
      cases h1
      exact absurd h2 (by simp)
    have ia : a ≠ it := by
      rintro rfl
      obtain ⟨o, h1, h2, _⟩ := p.isList
      obtain ⟨o', g1, g2, _⟩ := hit
      rw [h1] at g1
      cases g1
      rw [h2] at g2
      exact absurd g2 (by simp)
    have hlen := rv.length
    have hil2 : i < its.toArray.size := by
      have := (List.getElem?_eq_some_iff.mp hu).1
      simpa using this
    refine wpAny_pyNext_enum_itemC (Draws.list (prog := X.prog) (w := X.w) (A := X.A.in1) (I.ok.hd hc) it a ia its.toArray) he ⟨hit, p.isList⟩ hil2 hne (by simp [hne, ea]) fun x' h' tk hP ho hit' hT hsz hk => ?_
    obtain rfl : u = x' := by
      have hu' : its.toArray[i]? = some u := by simpa using hu
      have := hu'.symm.trans hP
      exact Option.some.inj this
    refine ⟨_, rfl, wpAny_letOwnedTupleGo_enum (s := { s with heap := h', toks := tk + 1 }) ho fun h'' he' sb => ?_⟩
    have hT2 : h''.get? s.heap.objs.size = some { cls := .type "tuple", data := .seq #[.int (c + (i : Nat)) tk, u] } := (sb.2 _ (Nat.ne_of_gt hel)).trans hT
    have new : ObjOk X.prog X.w (upd H s.heap.objs.size (.tup [.int (c + (i : Nat)), x])) h'' s.heap.objs.size (.tup [.int (c + (i : Nat)), x]) :=
      ⟨by show 2 ≤ sizeLine; decide, [.int (c + (i : Nat)) tk, u], .cons ⟨_, rfl⟩ (.cons ru .nil), ⟨_, hT2, rfl, _, rfl⟩⟩
    have I1 : Inv X pins σ (upd H s.heap.objs.size (.tup [.int (c + (i : Nat)), x])) { s with heap := h'', toks := tk + 1 } :=
      I.turnedNew (ch := [e, it]) (fun b ob hb q => (sb.2 b (fun z => hb (by simp [z]))).trans (hk b ob (fun z => hb (by simp [z])) (fun z => hb (by simp [z])) q)) hf (Nat.le_refl _) new
    refine ⟨.ref s.heap.objs.size, _, I1, rfl, ⟨_, x, rfl, I.hok.fresh (Nat.le_refl _), rfl, fun ys hy => by rw [I.list_inj hy hq]; exact hx⟩, ⟨⟨u, ?_⟩, hit'.1.at fun o q => (sb.2 it (Ne.symm hne)).trans q, hne⟩, fun b hb => ?_⟩
    · have e1 : c + ((i + 1 : Nat) : Int) = c + (i : Int) + 1 := by omega
      rw [e1]; exact he'
    · have hb' : b < s.heap.objs.size := by
        have e' : b = e ∨ b = it := by simpa using hb
        rcases e' with z | z
        · rw [z]; exact hel
        · rw [z]; exact hil
      rw [upd_ne (Nat.ne_of_lt hb')]
      exact (hf b hb).1
  done := by
    intro X hP hw hK hc i pins s σ H E I hf st hg
    subst hP hw hK
    obtain ⟨⟨old, he⟩, hit, hne⟩ := st
    obtain ⟨xs, hq, hx⟩ := hg
    obtain ⟨its, rv, p, hz⟩ := I.list hq
    obtain ⟨f0, f1, f2, f3, f4, f5⟩ := hf it (by simp)
    have hl := rv.length
    exact jk_enumE (I.ok.hd hc) he hit p.isList (by simp; omega) fun h' eb => ⟨rfl, I.turned (t' := s.toks) (fun b o hb q => eb b o hb q) f0 f1 f3 f4 f5⟩
  self := fun A i s Q E st h => let ⟨⟨_, he⟩, _⟩ := st; wpAny_pyIter_enum he h
def iEnumK (K : PySem.W.Frag) (ta tk : TA) : TI := fun σ H R => ta σ H fun vs H1 => tk σ H1 fun zs H2 => ∃ a xs c, vs = [.ref a] ∧ zs = [.int c] ∧ -(2 ^ 63) ≤ c ∧ c < 2 ^ 63 ∧ SqL K H2 a xs ∧ R (IteK K a c) H2
theorem pi_enumK {X : Cx} {e : Expr} {kws : List Keyword} {ta tk : TA} {p pos tpos : Pos} {elts : List Expr} {kk : Nat} (hg : Gl X "enumerate") (hm : X.mg "enumerate" = none) (ha : PA X [e] ta) (hk : PK X kws tk)
    (he : backTo pos (starEach [e] X.env) = (false, eval e X.env) :: backTo pos (starEach [] X.env) := by rfl) (hpl : (backTo pos (starEach [e] X.env)).any (·.1) = false := by rfl)
    (hall : (backToKw pos (keywordEach kws X.env)).all (·.1.isSome) = true := by rfl) (hnone : (backToKw pos (keywordEach kws X.env)).any (·.1.isNone) = false := by rfl) (hks : (backToKw pos (keywordEach kws X.env)).filterMap (·.1) = [Str.ofString "start"] := by rfl) :
    PI X (.Tuple elts kk tpos) (.Call (.Name "enumerate" p) [e] kws pos) (iEnumK X.K ta tk) := by
  refine ⟨fun pins s σ H R I h => ?_⟩
  refine wpAny_Call_Name_kw (ld_blt I hg hm boot_enumerate ?_)
  refine jk_callWith (thn (ha.run pos pins s σ H _ I h) fun us s1 ⟨vs, H1, I1, r1, q1⟩ => thn (hk.run pos pins s1 σ H1 _ I1 q1) fun ws s2 ⟨zs, H2, I2, r2, q2⟩ => ?_) he hpl hall hnone
  rw [hks]
  obtain ⟨a, xs, c, ex, ez, c0, c1, hq, q⟩ := q2
  subst ex ez
  obtain ⟨u, rfl, ru⟩ := vals1 r1
  obtain ⟨y, rfl, ry⟩ := vals1 r2
  cases ru
  obtain ⟨tc, rfl⟩ := ry
  obtain ⟨its, rv, p', hz⟩ := I2.list hq
  show wpAny _ _ (call (.type "enumerate") [.ref a] [(Str.ofString "start", .int c tc)]) _ _ _
  refine enum_begins_start (begins_list a its.toArray) p'.isList c0 c1 fun h' hE hit hsz hkp => wpAny_pyIter_enum hE ?_
  have I3 : Inv X pins σ H2 { s2 with heap := h' } := I2.kept (t' := s2.toks) hkp
  refine ⟨s2.heap.objs.size + 1, [s2.heap.objs.size + 1, s2.heap.objs.size], _, _, H2, rfl, I3, turn_enumK a (s2.heap.objs.size + 1) s2.heap.objs.size c, ⟨⟨.none, by
    rw [show c + ((0 : Nat) : Int) = c by omega]
    exact hE⟩, ⟨_, hit, rfl, rfl⟩, Nat.succ_ne_self _⟩, fun b hb => ?_, q⟩
  have e' : b = s2.heap.objs.size + 1 ∨ b = s2.heap.objs.size := by simpa using hb
  have hle : s2.heap.objs.size ≤ b := by
    rcases e' with z | z
    · rw [z]; exact Nat.le_add_right _ _
    · rw [z]; exact Nat.le_refl _
  exact I2.fpOk hle (I2.hok.fresh hle)
theorem walk_enumK {K : PySem.W.Frag} {a : Addr} {c : Int} {xs : List V} : Walk (IteK K a c) xs.length (fun H => SqL K H a xs) (YPair (fun i => some (.int (c + (i : Nat)))) (fun i => xs[i]?)) := by
  refine ⟨fun i _ hi q => ⟨xs, xs[i], q, by simp [hi]⟩, fun _ q => ⟨xs, q, Nat.le_refl _⟩, fun i H v H' _ q y => ?_⟩
  obtain ⟨T, x, h1, h2, h3, h4⟩ := y
  exact ⟨T, .int (c + (i : Nat)), x, h1, h2, h3, rfl, h4 xs q⟩
end Jf
set_option Elab.async false
set_option linter.all false
/-! forests of tasks: orders, the worth of an order, best orders set by set -/
namespace Jf
structure Fk where
  par : Option Nat
  pay : Rat
  fac : Rat
def parF (F : List Fk) (i : Nat) : Option Nat := (F[i]?).bind Fk.par
def payF (F : List Fk) (i : Nat) : Rat := ((F[i]?).map Fk.pay).getD 0
def facF (F : List Fk) (i : Nat) : Rat := ((F[i]?).map Fk.fac).getD 0
theorem parF_at {F : List Fk} {i : Nat} {t : Fk} (h : F[i]? = some t) : parF F i = t.par := by unfold parF; rw [h]; rfl
theorem payF_at {F : List Fk} {i : Nat} {t : Fk} (h : F[i]? = some t) : payF F i = t.pay := by unfold payF; rw [h]; rfl
theorem facF_at {F : List Fk} {i : Nat} {t : Fk} (h : F[i]? = some t) : facF F i = t.fac := by unfold facF; rw [h]; rfl
def worthF (F : List Fk) : List Nat → Rat
  | [] => 0
  | i :: r => payF F i + facF F i * worthF F r
def prodF (F : List Fk) : List Nat → Rat
  | [] => 1
  | i :: r => facF F i * prodF F r
theorem worth_app (F : List Fk) : ∀ a b : List Nat, worthF F (a ++ b) = worthF F a + prodF F a * worthF F b
  | [], b => by
    show worthF F b = 0 + 1 * worthF F b
    grind
  | i :: a, b => by
    show payF F i + facF F i * worthF F (a ++ b) = (payF F i + facF F i * worthF F a) + (facF F i * prodF F a) * worthF F b
    rw [worth_app F a b]
    grind
theorem prod_app (F : List Fk) : ∀ a b : List Nat, prodF F (a ++ b) = prodF F a * prodF F b
  | [], b => by
    show prodF F b = 1 * prodF F b
    grind
  | i :: a, b => by
    show facF F i * prodF F (a ++ b) = (facF F i * prodF F a) * prodF F b
    rw [prod_app F a b]
    grind
/-- whether a parent, if there is one, is told -/
def upL (o : Option Nat) (told : List Nat) : Bool := match o with
  | none => true
  | some p => decide (p ∈ told)
def okL (F : List Fk) (told : List Nat) (i : Nat) : Bool := decide (i < F.length) && (!decide (i ∈ told) && upL (parF F i) told)
def seqL (F : List Fk) : List Nat → List Nat → Bool
  | _, [] => true
  | told, i :: r => okL F told i && seqL F (told ++ [i]) r
theorem seqL_app (F : List Fk) : ∀ (a told b : List Nat), seqL F told (a ++ b) = (seqL F told a && seqL F (told ++ a) b)
  | [], told, b => by simp [seqL]
  | i :: a, told, b => by
    show (okL F told i && seqL F (told ++ [i]) (a ++ b)) = ((okL F told i && seqL F (told ++ [i]) a) && seqL F (told ++ i :: a) b)
    rw [seqL_app F a, Bool.and_assoc, List.append_assoc]
    rfl
/-- all orders of so many tasks, one longer each -/
def rowsF (F : List Fk) : Nat → List (List Nat)
  | 0 => [[]]
  | k + 1 => (rowsF F k).flatMap fun r => ((List.range F.length).filter (okL F r)).map fun i => r ++ [i]
theorem mem_rows (F : List Fk) : ∀ (k : Nat) (l : List Nat), l ∈ rowsF F k ↔ l.length = k ∧ seqL F [] l = true
  | 0, l => by
    show l ∈ [[]] ↔ _
    rw [List.mem_singleton, List.length_eq_zero_iff]
    constructor
    · rintro rfl
      exact ⟨rfl, rfl⟩
    · exact fun h => h.1
  | k + 1, l => by
    show l ∈ (rowsF F k).flatMap _ ↔ _
    rw [List.mem_flatMap]
    constructor
    · rintro ⟨r, hr, hl⟩
      obtain ⟨h1, h2⟩ := (mem_rows F k r).mp hr
      obtain ⟨i, hi, rfl⟩ := List.mem_map.mp hl
      obtain ⟨_, h3⟩ := List.mem_filter.mp hi
      refine ⟨by rw [List.length_append, h1]; rfl, ?_⟩
      rw [seqL_app, h2, Bool.true_and, List.nil_append]
      show (okL F r i && true) = true
      rw [h3]
      rfl
    · rintro ⟨h1, h2⟩
      obtain ⟨r, i, rfl⟩ : ∃ r i, l = r ++ [i] := by
        cases hl : l.reverse with
        | nil =>
          have := congrArg List.length hl
          rw [List.length_reverse, h1] at this
          cases this
        | cons i r => exact ⟨r.reverse, i, by rw [← List.reverse_reverse l, hl, List.reverse_cons]⟩
      rw [seqL_app, Bool.and_eq_true, List.nil_append] at h2
      have h3 : okL F r i = true := by
        have := h2.2
        show okL F r i = true
        simpa [seqL] using this
      refine ⟨r, (mem_rows F k r).mpr ⟨by simpa using h1, h2.1⟩, List.mem_map.mpr ⟨i, List.mem_filter.mpr ⟨?_, h3⟩, rfl⟩⟩
      unfold okL at h3
      simp only [Bool.and_eq_true, decide_eq_true_eq] at h3
      exact List.mem_range.mpr h3.1
theorem seqL_lt (F : List Fk) : ∀ (l told : List Nat), seqL F told l = true → ∀ i ∈ l, i < F.length
  | [], _, _, i, h => nomatch h
  | j :: r, told, h, i, hi => by
    simp only [seqL, Bool.and_eq_true] at h
    rcases List.mem_cons.mp hi with rfl | hi
    · have := h.1
      unfold okL at this
      simp only [Bool.and_eq_true, decide_eq_true_eq] at this
      exact this.1
    · exact seqL_lt F r _ h.2 i hi
/-! by bits -/
def addD (d i : Nat) : Nat := d ||| 2 ^ i
theorem add_bit (d i j : Nat) : (addD d i).testBit j = (d.testBit j || decide (i = j)) := by
  unfold addD
  rw [Nat.testBit_or, Nat.testBit_two_pow]
def upD (o : Option Nat) (d : Nat) : Bool := match o with
  | none => true
  | some p => d.testBit p
def okD (F : List Fk) (d i : Nat) : Bool := decide (i < F.length) && (!d.testBit i && upD (parF F i) d)
def seqD (F : List Fk) : Nat → List Nat → Bool
  | _, [] => true
  | d, i :: r => okD F d i && seqD F (addD d i) r
/-- the bits of what is told -/
def Told (d : Nat) (told : List Nat) : Prop := ∀ i, d.testBit i = decide (i ∈ told)
theorem Told.nil : Told 0 [] := fun i => by simp
theorem Told.add {d i : Nat} {told : List Nat} (h : Told d told) : Told (addD d i) (told ++ [i]) := fun j => by
  rw [add_bit, h j, Bool.eq_iff_iff, Bool.or_eq_true, decide_eq_true_iff, decide_eq_true_iff, decide_eq_true_iff, List.mem_append, List.mem_singleton]
  exact or_congr Iff.rfl eq_comm
theorem Told.ok {F : List Fk} {d : Nat} {told : List Nat} (h : Told d told) (i : Nat) : okD F d i = okL F told i := by
  unfold okD okL
  rw [h i]
  congr 2
  cases parF F i with
  | none => rfl
  | some p => exact h p
theorem Told.seq {F : List Fk} : ∀ (l : List Nat) {d : Nat} {told : List Nat}, Told d told → seqD F d l = seqL F told l
  | [], _, _, _ => rfl
  | i :: r, d, told, h => by
    show (okD F d i && seqD F (addD d i) r) = (okL F told i && seqL F (told ++ [i]) r)
    rw [h.ok, Told.seq r h.add]
/-- how many of the first n are told -/
def cntD (d : Nat) : Nat → Nat
  | 0 => 0
  | n + 1 => cntD d n + (if d.testBit n then 1 else 0)
theorem cnt_le (d : Nat) : ∀ n, cntD d n ≤ n
  | 0 => Nat.le_refl _
  | n + 1 => by
    have := cnt_le d n
    unfold cntD
    split <;> omega
theorem cnt_add {d i : Nat} (h : d.testBit i = false) : ∀ n, cntD (addD d i) n = cntD d n + (if i < n then 1 else 0)
  | 0 => rfl
  | n + 1 => by
    unfold cntD
    rw [cnt_add h n, add_bit]
    by_cases e : i = n
    · subst e
      rw [h]
      simp
    · by_cases l : i < n
      · simp [e, l, Nat.lt_succ_of_lt l]; omega
      · have : ¬ i < n + 1 := by omega
        simp [e, l, this]
theorem cnt_full {d : Nat} : ∀ {n}, cntD d n = n → ∀ i, i < n → d.testBit i = true
  | 0, _, i, h => absurd h (Nat.not_lt_zero _)
  | n + 1, h, i, hi => by
    unfold cntD at h
    have l := cnt_le d n
    by_cases b : d.testBit n
    · rw [if_pos b] at h
      by_cases e : i = n
      · rw [e]; exact b
      · exact cnt_full (n := n) (by omega) i (by omega)
    · rw [if_neg b] at h
      omega
theorem every_bit (n i : Nat) : (2 ^ n - 1).testBit i = decide (i < n) := Nat.testBit_two_pow_sub_one n i
theorem cnt_every : ∀ (m n : Nat), n ≤ m → cntD (2 ^ m - 1) n = n
  | m, 0, _ => rfl
  | m, n + 1, h => by
    unfold cntD
    rw [cnt_every m n (by omega), every_bit, decide_eq_true (show n < m by omega), if_pos rfl]
theorem cnt_zero : ∀ n, cntD 0 n = 0
  | 0 => rfl
  | n + 1 => by
    unfold cntD
    rw [cnt_zero n]
    simp
theorem full_every {d n : Nat} (hd : d < 2 ^ n) (h : cntD d n = n) : d = 2 ^ n - 1 := by
  refine Nat.eq_of_testBit_eq fun i => ?_
  rw [every_bit]
  by_cases l : i < n
  · rw [cnt_full h i l, decide_eq_true l]
  · rw [decide_eq_false l]
    exact Nat.testBit_lt_two_pow (Nat.lt_of_lt_of_le hd (Nat.pow_le_pow_right (by decide) (by omega)))
theorem add_lt {d i n : Nat} (hd : d < 2 ^ n) (hi : i < n) : addD d i < 2 ^ n := Nat.or_lt_two_pow hd (Nat.pow_lt_pow_right (by decide) hi)
theorem add_gt {d i : Nat} (h : d.testBit i = false) : d < addD d i := by
  have h1 : d ≤ addD d i := Nat.left_le_or
  have h2 : d ≠ addD d i := fun e => by
    have : d.testBit i = (addD d i).testBit i := congrArg (fun z : Nat => z.testBit i) e
    rw [add_bit, h] at this
    simp at this
  omega
theorem okD_lt {F : List Fk} {d i : Nat} (h : okD F d i = true) : i < F.length := by
  unfold okD at h
  simp only [Bool.and_eq_true, decide_eq_true_eq] at h
  exact h.1
theorem okD_bit {F : List Fk} {d i : Nat} (h : okD F d i = true) : d.testBit i = false := by
  unfold okD at h
  simp only [Bool.and_eq_true, Bool.not_eq_true'] at h
  exact h.2.1
theorem okD_cnt {F : List Fk} {d i : Nat} (h : okD F d i = true) : cntD (addD d i) F.length = cntD d F.length + 1 := by
  rw [cnt_add (okD_bit h), if_pos (okD_lt h)]
/-- a whole order from d on -/
def Full (F : List Fk) (d : Nat) (l : List Nat) : Prop := seqD F d l = true ∧ cntD d F.length + l.length = F.length
theorem full_cons {F : List Fk} {d i : Nat} {r : List Nat} : Full F d (i :: r) ↔ okD F d i = true ∧ Full F (addD d i) r := by
  unfold Full
  constructor
  · rintro ⟨h1, h2⟩
    simp only [seqD, Bool.and_eq_true] at h1
    refine ⟨h1.1, h1.2, ?_⟩
    rw [okD_cnt h1.1]
    rw [List.length_cons] at h2
    omega
  · rintro ⟨h1, h2, h3⟩
    rw [okD_cnt h1] at h3
    exact ⟨by simp [seqD, h1, h2], by rw [List.length_cons]; omega⟩
theorem full_iff {F : List Fk} {l : List Nat} : Full F 0 l ↔ l ∈ rowsF F F.length := by
  unfold Full
  rw [mem_rows, Told.nil.seq, cnt_zero, Nat.zero_add]
  exact ⟨fun h => ⟨h.2, h.1⟩, fun h => ⟨h.2, h.1⟩⟩
/-- every set that is not all has a task that is open, where parents stand ahead -/
theorem open_one {F : List Fk} (wf : ∀ i p, parF F i = some p → p < i) {d : Nat} (hd : d < 2 ^ F.length) (hn : d ≠ 2 ^ F.length - 1) : ∃ i, okD F d i = true := by
  have h1 : ∃ i, i < F.length ∧ d.testBit i = false := by
    apply Classical.byContradiction
    intro no
    refine hn (Nat.eq_of_testBit_eq fun i => ?_)
    rw [every_bit]
    by_cases l : i < F.length
    · rw [decide_eq_true l]
      cases hb : d.testBit i with
      | true => rfl
      | false => exact absurd ⟨i, l, hb⟩ no
    · rw [decide_eq_false l]
      exact Nat.testBit_lt_two_pow (Nat.lt_of_lt_of_le hd (Nat.pow_le_pow_right (by decide) (by omega)))
  have h2 : ∀ k i, i ≤ k → i < F.length → d.testBit i = false → ∃ i, okD F d i = true := by
    intro k
    induction k with
    | zero =>
      intro i l hi hb
      have : i = 0 := by omega
      subst this
      refine ⟨0, ?_⟩
      unfold okD
      rw [decide_eq_true hi, hb]
      cases hp : parF F 0 with
      | none => rfl
      | some p => exact absurd (wf 0 p hp) (Nat.not_lt_zero _)
    | succ k ih =>
      intro i l hi hb
      cases hp : parF F i with
      | none =>
        refine ⟨i, ?_⟩
        unfold okD
        rw [decide_eq_true hi, hb, hp]
        rfl
      | some p =>
        have lp := wf i p hp
        cases hq : d.testBit p with
        | false => exact ih p (by omega) (by omega) hq
        | true =>
          refine ⟨i, ?_⟩
          unfold okD
          rw [decide_eq_true hi, hb, hp]
          show (true && (!false && d.testBit p)) = true
          rw [hq]
          rfl
  obtain ⟨i, hi, hb⟩ := h1
  exact h2 i i (Nat.le_refl _) hi hb
structure Best (F : List Fk) (d : Nat) (q : Rat) (o : Option Nat) : Prop where
  has : ∃ l, Full F d l ∧ worthF F l = q ∧ l.head? = o
  most : ∀ l, Full F d l → worthF F l ≤ q
theorem Best.every (F : List Fk) : Best F (2 ^ F.length - 1) 0 none where
  has := ⟨[], ⟨rfl, by rw [cnt_every _ _ (Nat.le_refl _)]; rfl⟩, rfl, rfl⟩
  most := by
    rintro (_ | ⟨i, r⟩) h
    · exact Rat.le_refl
    · have := h.2
      rw [cnt_every _ _ (Nat.le_refl _), List.length_cons] at this
      omega
/-- one more task -/
theorem Best.step {F : List Fk} {d i : Nat} {q : Rat} (f0 : ∀ j, 0 ≤ facF F j) (g : ∀ j, okD F d j = true → ∃ b o, Best F (addD d j) b o ∧ payF F j + facF F j * b ≤ q) (hi : okD F d i = true) {b : Rat} {o : Option Nat} (hb : Best F (addD d i) b o) (hq : q = payF F i + facF F i * b) : Best F d q (some i) where
  has := by
    obtain ⟨l, h1, h2, h3⟩ := hb.has
    exact ⟨i :: l, full_cons.mpr ⟨hi, h1⟩, by show payF F i + facF F i * worthF F l = q; rw [h2, hq], rfl⟩
  most := by
    rintro (_ | ⟨j, r⟩) h
    · exfalso
      have h1 := h.2
      have h2 := okD_cnt hi
      have h3 := cnt_le (addD d i) F.length
      simp at h1
      omega
    · obtain ⟨hj, hr⟩ := full_cons.mp h
      obtain ⟨b', o', hb', le⟩ := g j hj
      have h1 := hb'.most r hr
      have h2 := Rat.mul_le_mul_of_nonneg_left h1 (f0 j)
      show payF F j + facF F j * worthF F r ≤ q
      grind
theorem Best.next {F : List Fk} {d i : Nat} {q : Rat} (f0 : ∀ j, 0 ≤ facF F j) (h : Best F d q (some i)) : okD F d i = true ∧ ∀ b o, Best F (addD d i) b o → q = payF F i + facF F i * b := by
  obtain ⟨l, h1, h2, h3⟩ := h.has
  cases l with
  | nil => cases h3
  | cons j r =>
    cases h3
    obtain ⟨hj, hr⟩ := full_cons.mp h1
    refine ⟨hj, fun b o hb => ?_⟩
    have a1 := hb.most r hr
    have a2 := Rat.mul_le_mul_of_nonneg_left a1 (f0 i)
    obtain ⟨l', h1', h2', _⟩ := hb.has
    have a3 := h.most (i :: l') (full_cons.mpr ⟨hj, h1'⟩)
    have e : payF F i + facF F i * worthF F r = q := h2
    have e' : worthF F (i :: l') = payF F i + facF F i * worthF F l' := rfl
    rw [e', h2'] at a3
    grind
theorem Best.stop {F : List Fk} {d : Nat} {q : Rat} (h : Best F d q none) : q = 0 ∧ Full F d [] := by
  obtain ⟨l, h1, h2, h3⟩ := h.has
  cases l with
  | nil => exact ⟨h2.symm, h1⟩
  | cons j r => cases h3
end Jf
set_option Elab.async false
set_option linter.all false
set_option maxRecDepth 100000
set_option maxHeartbeats 4000000
namespace Jf
open PySem PySem.Spec PyProof.Rows L2 Evl
/-- a list cut: a new list, not sys.modules -/
def rSlN (K : PySem.W.Frag) : V → Option Int → Option Int → Hp → VK → Prop := fun x lo hi H Q => ∃ a xs, x = .ref a ∧ SqL K H a xs ∧ ∀ p, H p = none → p ≠ sysModules → Q (.ref p) (upd H p (.lst (cutV xs lo hi)))
theorem sl_listN {X : Cx} : SlR X (rSlN X.K) := by
  intro pins s σ H x v vl vu lo hi sl Q I rx hs pl pu h
  obtain ⟨a, xs, rfl, hx, q⟩ := h
  cases rx
  obtain ⟨its, r, ht, hz⟩ := I.list hx
  have hlen := r.length
  refine ⟨"list", _, slot_list_getitem.lookup, ht.isList.typeIs, ?_⟩
  refine wpAny_getItem_list_slice ht.isList hs pl pu .none (by simp) ?_ (by rw [List.size_toArray] <;> omega)
  rw [slicePick_cut, ← hlen]
  have fr := I.hok.fresh (Nat.le_refl s.heap.objs.size)
  refine ⟨.ref s.heap.objs.size, _, I.laid (t' := s.toks) (o := .lst (cutV xs lo hi)) (fun b ob q => Heap.get?_push_of_some _ q) (Nat.le_refl _) ?_, rfl, q _ fr (Nat.ne_of_gt I.big)⟩
  exact ⟨Nat.le_trans (cutV_length xs lo hi) hz, _, 0, (r.drop (HT.sIx xs.length 0 lo)).take (HT.sIx xs.length xs.length hi - HT.sIx xs.length 0 lo), Heap.get?_push_size _ rfl⟩
end Jf
set_option Elab.async false
set_option linter.all false
set_option maxRecDepth 100000
set_option maxHeartbeats 4000000
namespace Jf
open PySem PySem.Spec PyProof.Rows L2 Evl
/-! sorted(d), d a dict whose keys are tuples of so many ints from 0 to 7 -/
theorem swo_by (k : Value → Int) : SrtO.Swo fun v u => decide (k v < k u) := by
  refine ⟨fun x y h => ?_, fun x y z h1 h2 => ?_⟩
  · have := of_decide_eq_true h
    exact decide_eq_false (by omega)
  · have := of_decide_eq_false h1
    have := of_decide_eq_false h2
    exact decide_eq_false (by omega)
section
variable {prog : Program} {w : World} {A : Around} {s : Shared}
theorem tups_sortable {d : Nat} {B : Int} {a : Addr} {vs : List Value} (hd : 1 ≤ d) (h2 : 2 ≤ vs.length) (x : TS.TupsOk s.heap d B vs) (ha : ∀ o, s.heap.get? a = some o → o.cls ≠ .type "tuple") :
    SrtO.SortableO prog w A s a vs fun v u => decide (TS.code B (TS.intsOf s.heap v) < TS.code B (TS.intsOf s.heap u)) := by
  intro h' keep
  have kk : ∀ b o, s.heap.get? b = some o → o.cls = .type "tuple" → h'.get? b = some o := fun b o e c => keep b o (fun z => by subst z; exact ha o e c) e
  have x' := x.keeps kk
  obtain ⟨fs, k, hl, hi⟩ := TS.firsts_of hd vs x'
  refine ⟨tuples' true, fun Q E hq => ?_, fun p q hp hq => ?_⟩
  · refine PySem.W.kat_kind (T := .type "int") k (by omega) (fun f hm => ?_) (by rfl) ?_
    · obtain ⟨n, t, rfl⟩ := hi f hm
      exact PySem.W.Looks.now
    · have e : (Value.type "int" != Value.type "tuple") = true := by first | decide +kernel | rfl | decide
      rw [e]
      exact hq
  · obtain ⟨ns, tp, lp, bp⟩ := x _ hp
    obtain ⟨ms, tq, lq, bq⟩ := x _ hq
    have ep := tp.ints
    have eq := tq.ints
    obtain ⟨b, xs, e1, ⟨o, ho, hc, n, hdt⟩, i⟩ := tp.keeps kk
    obtain ⟨b', ys, e2, ⟨o', ho', hc', n', hdt'⟩, i'⟩ := tq.keeps kk
    show wpAny (model prog w) A (keyLt' (tuples' true) p.1 q.1) (fun r s' => s' = { s with heap := h' } ∧ r = decide (TS.code B (TS.intsOf s.heap p.1) < TS.code B (TS.intsOf s.heap q.1))) (fun _ _ => False) { s with heap := h' }
    rw [ep, eq, e1, e2]
    refine PySem.W.kat_lt ho hdt ho' hdt' ?_
    have sz : decide (xs.size < ys.size) = false := by
      have l1 := i.length
      have l2 := i'.length
      rw [Array.length_toList] at l1 l2
      exact decide_eq_false (by omega)
    rw [sz]
    exact TS.lex_ints (Q := fun r s' => s' = { s with heap := h' } ∧ r = decide (TS.code B ns < TS.code B ms)) 0 i i' (by omega) bp bq ⟨rfl, rfl⟩
end
theorem keys_ints : ∀ {ns : List Int} {its : List Value}, Vals ((ns.map Sum.inl : List L2.Key).map kV) its → IntsAre its ns
  | [], _, .nil => .nil
  | n :: ns, _, .cons r t => by
    obtain ⟨tk, rfl⟩ := r
    exact .cons _ _ (keys_ints t)
def rSortDT : List V → Hp → VK → Prop := fun xs H Q => ∃ (m : Nat) (d : Addr) (kvs : List (List L2.Key × V)), xs = [V.ref d] ∧ Rd H d (.dT kvs) ∧ (1 ≤ m ∨ kvs.length ≤ 1) ∧ (∀ p ∈ kvs, ∃ ns : List Int, p.1 = ns.map Sum.inl ∧ ns.length = m ∧ TS.Bd 8 ns) ∧
  ∀ (p : Addr) (bs cs : List Addr), H p = none → IsKeys H kvs bs → cs.Perm bs → Q (.ref p) (upd H p (.lst (cs.map V.ref)))
def bkA : Value → Addr
  | .ref a => a
  | _ => 0
theorem bkA_refs (bs : List Addr) : (bs.map Value.ref).map bkA = bs := by
  rw [List.map_map]
  exact List.map_id' bs
theorem cr_sortDT {X : Cx} (hcalm : X.calm = true) : CallR X (.builtin "sorted") rSortDT := by
  intro pins s σ H xs us Q I r h
  obtain ⟨m, d, kvs, rfl, hd, hm, hk, q⟩ := h
  obtain ⟨u, rfl, rx⟩ := r.one
  cases rx
  obtain ⟨z, hs, ks, pr, o, es, ep, ho, hx, hdt, he, hn⟩ := (show ObjOk X.prog X.w H s.heap d (.dT kvs) from hd.ok I.hok)
  have l1 : es.size = ks.length := size_of_entries he
  have l2 : kvs.length = ks.length := Paired.length pr
  refine Calls.call_function_entry PyProof.Rows.kind_sorted PyProof.Rows.plain_sorted PyProof.Rows.entry_sorted (PyProof.Rows.args_sorted1 _) ?_
  unfold Builtin.«sorted»
  refine wpAny_bind (m := checkCount "sorted" 1 1 _) (wpAny_pure ?_)
  refine wpAny_bind (PySem.W.kdu_collect (A := X.A.in1) (kdl_raw hs hx hdt) (I.ok.hd hcalm) ho (by omega) fun h' tk acc kp it => ?_)
  have ea : acc.toList = (ks.map fun x => x.2.1).map Value.ref := by
    rw [List.map_map]
    have hl : acc.toList.length = ks.length := by rw [Array.length_toList, it.1]; exact l1
    apply List.ext_getElem?
    intro j
    rw [List.getElem?_map]
    cases hj : acc.toList[j]? with
    | none =>
      have h1 := List.getElem?_eq_none_iff.mp hj
      rw [List.getElem?_eq_none (by omega)]
      all_goals rfl
    | some v =>
      obtain ⟨en, hen, hv⟩ := it.2 j v (by rw [← Array.getElem?_toList]; exact hj)
      have qe := entry_at he j
      rw [hen] at qe
      cases hb : ks[j]? with
      | none =>
        rw [hb] at qe
        exact nomatch (show some en = none from qe)
      | some b =>
        rw [hb] at qe
        have e2 : en = entryOfKey (tupleKind (mixKind X.prog X.w)) b := Option.some.inj qe
        rw [hv, e2]
        all_goals rfl
  have ik := isKeys_of pr
  generalize (ks.map fun x => x.2.1) = bs at ea ik
  have lb : bs.length = kvs.length := ik.length.symm
  rw [ea]
  have hz : (bs.map Value.ref).length ≤ sizeLine := by rw [List.length_map]; omega
  have I1 : Inv X pins σ H { s with heap := h', toks := tk } := I.kept kp
  have tu : TS.TupsOk s.heap m 8 (bs.map Value.ref) := fun v hv => by
    obtain ⟨b, hb, rfl⟩ := List.mem_map.mp hv
    obtain ⟨j, hj⟩ := List.mem_iff_getElem?.mp hb
    obtain ⟨p, hp, hbt⟩ := L2.DX.pget ik hj
    obtain ⟨ns, e, ln, bd⟩ := hk p (List.mem_of_getElem? hp)
    rw [e] at hbt
    obtain ⟨_, its, rv, hT⟩ := (show ObjOk X.prog X.w H s.heap b (.tup ((ns.map Sum.inl).map kV)) from I.hok b _ hbt)
    exact ⟨ns, ⟨b, its.toArray, rfl, hT, keys_ints rv⟩, ln, bd⟩
  refine wpAny_bind (wpAny_newList ?_ hz)
  have hoL : (h'.push (seqObj "list" (bs.map Value.ref).toArray 0)).get? h'.objs.size = some (seqObj "list" (bs.map Value.ref).toArray 0) := Heap.get?_push_size _ rfl
  show wpAny _ _ _ _ _ { s with heap := h'.push (seqObj "list" (bs.map Value.ref).toArray 0), toks := tk }
  refine wpAny_bind (wpAny_holding (wpAny_call_entry PyProof.Rows.slot_list_sort ⟨_, hoL, rfl⟩ PyProof.Rows.entry_list_sort
    (SrtO.list_sort_ord (s := { s with heap := h'.push (seqObj "list" (bs.map Value.ref).toArray 0), toks := tk }) (swo_by fun v => TS.code 8 (TS.intsOf (h'.push (seqObj "list" (bs.map Value.ref).toArray 0)) v)) hoL hz (fun h2 => ?_) fun out h1 h2 => ⟨_, rfl, ?_⟩) (PyProof.Rows.args_list_sort _)))
  · refine tups_sortable (d := m) (B := 8) (s := { s with heap := h'.push (seqObj "list" (bs.map Value.ref).toArray 0), toks := tk }) ?_ h2 (tu.keeps fun b o e _ => Heap.get?_push_of_some _ (kp b o e)) fun o e c => ?_
    · rw [List.length_map] at h2
      omega
    · have e' : some o = some (seqObj "list" (bs.map Value.ref).toArray 0) := e.symm.trans hoL
      cases e'
      exact absurd (Value.type.inj c) (by decide)
  · obtain ⟨e', he'⟩ := PyProof.Rows.sortedHeap_at (vs := bs.map Value.ref) (out := out.toArray) hoL
    have pm : (out.map bkA).Perm bs := by
      have := h2.perm.map bkA
      rw [bkA_refs] at this
      exact this
    have eo : out = (out.map bkA).map Value.ref := by
      rw [List.map_map]
      conv => lhs; rw [← List.map_id out]
      refine List.map_congr_left fun v hv => ?_
      obtain ⟨b, _, rfl⟩ := List.mem_map.mp (h2.perm.mem_iff.mp hv)
      rfl
    have hlen : ((out.map bkA).map V.ref).length ≤ sizeLine := by
      rw [List.length_map, pm.length_eq, lb]
      exact z
    have rvO : Vals ((out.map bkA).map V.ref) out := by
      conv => rhs; rw [eo]
      exact vals_refs _
    refine wpAny_pure ⟨_, rfl, .ref h'.objs.size, upd H h'.objs.size (.lst ((out.map bkA).map V.ref)), I1.laid (t' := tk) (fun b u e => ?_) (Nat.le_refl _)
      (show ObjOk X.prog X.w _ _ _ (.lst ((out.map bkA).map V.ref)) from ⟨hlen, out, e', rvO, he'⟩), rfl, q _ _ _ (I1.hok.fresh (Nat.le_refl _)) ik pm⟩
    have hb : b < h'.objs.size := Heap.lt_size e
    rw [PyProof.Rows.sortedHeap_old (Nat.ne_of_lt hb) (by rw [size_push']; exact Nat.lt_succ_of_lt hb)]
    exact Heap.get?_push_of_some _ e
/-! {k: v}, k a tuple -/
def tDisp1T (trs : List (TE × TE)) : TE := fun σ H Q => ∀ p, H p = none → tPairs trs σ (upd H p (.dT [])) fun ps H2 => H2 p = some (.dT []) ∧ ∃ (k : List L2.Key) (b : Addr) (y : V), ps = [(V.ref b, y)] ∧ H2 b = some (.tup (k.map kV)) ∧ Q (.ref p) (upd H2 p (.dT [(k, y)]))
theorem pe_disp1T {X : Cx} {pos : Pos} {keys : List (Option Expr)} {values : List Expr} {trs : List (TE × TE)} (hu : X.A.units + 1 < cLine) (h : PPs X pos keys values trs) (hall : keys.all (·.isSome) = true) (hl : keys.length = values.length) (h0 : keys ≠ [])
    (h15 : keys.length ≤ 15) : PE X (.Dict keys values pos) (tDisp1T trs) := by
  refine ⟨fun pins s σ H Q I q => ?_⟩
  have hn := I.hok.fresh (Nat.le_refl s.heap.objs.size)
  have I1 := I.laid (a := s.heap.objs.size) (o := .dT []) (h' := s.heap.push { cls := .type "dict", data := .dict #[] }) (t' := s.toks) (fun _ _ q => Heap.get?_push_of_some _ q) (Nat.le_refl _) (dt_empty s.heap I.big)
  have hnl := pairTrees_length keys values X.env pos hall hl
  have ne : pairTrees keys values X.env pos ≠ [] := fun e => by
    rw [e] at hnl
    exact h0 (List.length_eq_zero_iff.mp hnl.symm)
  rw [arm_eval_Dict, zip_pairTrees keys values X.env pos hall hl, dictDisplay_pairs _ ne (by omega)]
  refine wpAny_bind (wpAny_standAt (wpAny_bind (wpAny_subDictH (knd := tupleKind (mixKind X.prog X.w)) (by show X.A.units < cLine; omega) (by omega) (thn (h.run pins _ σ _ _ I1 (q _ hn)) fun ws s2 ⟨ps, H2, I2, rel, e, k, b, y, ep, hb, q2⟩ => ?_))))
  subst ep
  obtain ⟨kv, yv, ew, ra, rb⟩ : ∃ kv yv, ws = [(kv, yv)] ∧ RelV (.ref b) kv ∧ RelV y yv := by
    cases rel with
    | @cons p q ps qs r1 r2 =>
      cases r2
      exact ⟨q.1, q.2, rfl, r1.1, r1.2⟩
  subst ew
  cases (show kv = Value.ref b from ra)
  obtain ⟨z, hd, xs, r0, dd⟩ := dt_of I2.hok e
  cases r0
  refine ⟨[(k, b, yv)], ⟨rfl, rfl, key_of I2.hok hb, trivial⟩, dd, fun h' tk dd' hs => wpAny_pure ⟨.ref s.heap.objs.size, _, ?_, rfl, q2⟩⟩
  obtain ⟨q, es, ep, hq, h2, h3, h4, _, h5⟩ := dd'
  refine d_write I2 (by rw [e]; exact True.intro) hs ⟨q, hq⟩ ⟨?_, hd, _, .cons ⟨rfl, ?_, rb⟩ .nil, q, es, ep, hq, h2, h3, h4, h5⟩
  · show 1 ≤ sizeLine
    decide
  · show upd H2 _ _ b = _
    rw [upd_ne (ne_of hb e (fun z => nomatch z))]
    exact hb
/-! sorted(t), t a tuple of ints -/
section
variable {prog : Program} {w : World} {A : Around} {E : Value → Shared → Prop} {s : Shared}
theorem collect_tupI {l : Addr} {vs : List Value} {R : List Value → Shared → Prop} (hl : IsTup s.heap l vs.toArray) (hz : vs.length ≤ sizeLine)
    (k : ∀ h', (∀ b o, s.heap.get? b = some o → h'.get? b = some o) → R vs { s with heap := h' }) : wpAny (model prog w) A (collect (.ref l)) R E s := by
  obtain ⟨o, ho, hc, n, hd⟩ := id hl
  unfold collect
  refine wpAny_bind (wpAny_runValue (codeAny_builtin entry_proto_collect' ?_))
  refine wpAny_bind (wpAny_newList (wpAny_pure ⟨Code.quiet_builtin _ (by decide +kernel), codeAny_builtin entry_list_iadd' ?_⟩))
  have hN : (s.heap.push (seqObj "list" #[] 0)).get? s.heap.objs.size = some (seqObj "list" #[] 0) := Heap.get?_push_size _ rfl
  have ho' := Heap.get?_push_of_some (seqObj "list" #[] 0) ho
  show wpAny _ _ (Builtin.List.listExtendWith (.ref s.heap.objs.size) (.ref l) (.ref s.heap.objs.size)) _ _ { s with heap := s.heap.push (seqObj "list" #[] 0) }
  unfold Builtin.List.listExtendWith
  refine wpAny_bind (wpAny_typeOf (T := "tuple") ⟨o, ho', hc⟩ ?_)
  have ht : (Value.type "tuple" == Value.type "tuple") = true := by rfl
  rw [if_pos (by rw [ht]; simp)]
  refine wpAny_bind (listItems_at ho' hd ?_)
  refine wpAny_bind (listItems_at (xs := #[]) (n := 0) hN rfl ?_)
  rw [if_neg (by simp)]
  refine wpAny_bind (listUpdate_at (xs := #[]) (n := 0) hN rfl ?_ (Nat.zero_le _) (by show (#[] ++ vs.toArray).size ≤ sizeLine + 1; simp only [Array.size_append, List.size_toArray, List.length_nil]; omega))
  refine wpAny_pure ?_
  have hU := get?_update_seq (g := (· ++ vs.toArray)) hN
  have keep : ∀ b ob, s.heap.get? b = some ob → ((s.heap.push (seqObj "list" #[] 0)).update s.heap.objs.size (Obj.mapSeq (· ++ vs.toArray))).get? b = some ob := fun b ob q => by
    rw [Heap.get?_update_ne _ _ _ _ (Nat.ne_of_lt (Heap.lt_size q))]
    exact Heap.get?_push_of_some _ q
  show wpAny (model prog w) A (load s.heap.objs.size >>= _) R E _
  refine wpAny_bind (wpAny_load hU ?_)
  show wpAny _ _ (pure ((#[] : Array Value) ++ vs.toArray).toList) R E _
  have ev : ((#[] : Array Value) ++ vs.toArray).toList = vs := by simp
  rw [ev]
  exact wpAny_pure (k _ keep)
end
def rSortedTI (K : PySem.W.Frag) : List V → Hp → VK → Prop := fun vs H Q => ∃ (a : Addr) (ns : List Int), vs = [V.ref a] ∧ SqT K H a (ns.map V.int) ∧
  ∀ (ms : List Int) (p : Addr), ms.Perm ns → ms.Pairwise (· ≤ ·) → H p = none → Q (.ref p) (upd H p (.lst (ms.map V.int)))
theorem cr_sortedTI {X : Cx} : CallR X (.builtin "sorted") (rSortedTI X.K) := by
  intro pins s σ H vs us Q I r h
  obtain ⟨a, ns, rfl, hs, q⟩ := h
  obtain ⟨its, rv, hT, hz⟩ := I.tuple hs
  rw [Vals.ref1 r]
  have hi := rv.ints
  have hz' : its.length ≤ sizeLine := by rw [← rv.length]; exact hz
  refine Calls.call_function_entry PyProof.Rows.kind_sorted PyProof.Rows.plain_sorted PyProof.Rows.entry_sorted (PyProof.Rows.args_sorted1 _) ?_
  unfold Builtin.«sorted»
  refine wpAny_bind (m := checkCount "sorted" 1 1 _) (wpAny_pure ?_)
  refine wpAny_bind (collect_tupI hT hz' fun h' kp => ?_)
  have I1 : Inv X pins σ H { s with heap := h' } := I.kept (t' := s.toks) kp
  refine wpAny_bind (wpAny_newList ?_ hz')
  have hoL : (h'.push (seqObj "list" its.toArray 0)).get? h'.objs.size = some (seqObj "list" its.toArray 0) := Heap.get?_push_size _ rfl
  show wpAny _ _ _ _ _ { s with heap := h'.push (seqObj "list" its.toArray 0) }
  refine wpAny_bind (wpAny_holding (wpAny_call_entry PyProof.Rows.slot_list_sort ⟨_, hoL, rfl⟩ PyProof.Rows.entry_list_sort
    (SrtO.list_sort_ord (s := { s with heap := h'.push (seqObj "list" its.toArray 0) }) SrtO.swo_int hoL hz' (fun h2 => SrtO.ints_sortable hi h2) fun out h1 h2 => ⟨_, rfl, ?_⟩) (PyProof.Rows.args_list_sort _)))
  obtain ⟨k1, k2, k3⟩ := SrtO.ints_out hi h1 h2
  obtain ⟨ep, he'⟩ := PyProof.Rows.sortedHeap_at (vs := its) (out := out.toArray) hoL
  have hlen : ((out.map SrtO.iv).map V.int).length ≤ sizeLine := by
    rw [List.length_map, k2.length_eq]
    rw [List.length_map] at hz
    exact hz
  refine wpAny_pure ⟨_, rfl, .ref h'.objs.size, upd H h'.objs.size (.lst ((out.map SrtO.iv).map V.int)), I1.laid (t' := s.toks) (fun b u e => ?_) (Nat.le_refl _) (show ObjOk X.prog X.w _ _ _ (.lst ((out.map SrtO.iv).map V.int)) from ⟨hlen, out, ep, vals_of_ints k1, he'⟩), rfl, q _ _ k2 k3 (I1.hok.fresh (Nat.le_refl _))⟩
  have hb : b < h'.objs.size := Heap.lt_size e
  rw [PyProof.Rows.sortedHeap_old (Nat.ne_of_lt hb) (by rw [size_push']; exact Nat.lt_succ_of_lt hb)]
  exact Heap.get?_push_of_some _ e
end Jf
set_option Elab.async false
set_option linter.all false
set_option maxRecDepth 100000
set_option maxHeartbeats 4000000
namespace Jf
open PySem PySem.Spec PyProof.Rows L2 Evl
/-! the end of a law that shows data, with tables, the script's bits told -/
theorem walk_ofGLB {l : PySem.W.OpenLaw} {n k : Nat} {q : Program} {loose : List Str} {XP : (Str → Option Value) → Heap → Prop} {YP : World → Heap → Prop} {d : DefRec} {K : Params → PySem.W.Frag} {sp : PySem.W.Frag → List Addr → Sp} {PA : List Addr} {x : Str} {ys : List Str}
    (hn : l.most = some n) (hn2 : n ≤ sizeLine) (hdf : d.params.defaults = []) (hr : Room k callerA) (hrec : (ys.all fun y => (recsOf q).any fun e => e.name == y) = true) (hY : ∀ (w : World) (h : Heap), YP w h → (K w.params).In h)
    (F : ∀ (w : World) (mg : Str → Option Value) (fa : Addr) (h : Heap), (K w.params).In h → h.Ns mainGlobals mg → mg d.name = some (.ref fa) → (∀ y ∈ ys, TabE (K w.params) y mg h) →
      ∃ (fd : FuncData) (cs : List (Addr × Addr)), (∀ p ∈ cs, h.get? p.2 = some { cls := .none, data := .fields #[] }) ∧ (∀ p ∈ cs, (K w.params).lookup p.2 = none) ∧ (∀ p ∈ cs, PySem.W.CodeHd h p.1 p.2) ∧ (∀ (s : Shared) (u : Value), BindsTo s fd ⟨[u], []⟩ [(x, u)]) ∧
        (∀ (H : Hp) (a : Addr) (ns : List Int), ns.length ≤ n → (∀ z ∈ ns, Builtin.Int.intBits z ≤ 1048576) → (∀ p ∈ cs, H p.2 = some (.tbl #[])) → SqL (K w.params) H a (ns.map V.int) → sp (K w.params) PA [.ref a] H (fun v _ => v = .bl true) E0) ∧
        ∀ base : Heap, (K w.params).In base → base.Ns mainGlobals mg → (∀ p ∈ cs, GxR.TabB base mg p.1 p.2) → FnG l.prog w (K w.params) mg base k fa fd [x] (sp (K w.params) PA)) :
    PySem.W.WalkO q loose XP YP l.row.toRowW d [] (fun f vs => PySem.call f vs) := by
  apply Att.attach_callB hn hdf
  intro w s₀ s₁ mg mb fa o pm cd doc a vs ns G Y _ _ _ hmg hobj hints hlen hbits hg
  have KX := hY w _ Y
  have empty : ∀ y ∈ ys, TabE (K w.params) y mg s₁.heap := by
    intro y hy f c T o1 fd1 e dd us sl k0 k1 k2 k3 k4 k5
    obtain ⟨dL, mem, nm⟩ := List.any_eq_true.mp (List.all_eq_true.mp hrec y hy)
    obtain ⟨a2, o2, fd2, c2, T2, h1, h2, h3, h4, _, ⟨oc, vc, t1, _, t3, t4⟩, hT⟩ := G.T.tab dL mem
    rw [beq_iff_eq.mp nm, k0] at h1
    cases h1
    rw [KX _ _ k1] at h2
    cases h2
    rw [k2] at h3
    cases h3
    rw [k3] at h4
    cases h4
    rw [KX _ _ k4] at t1
    cases t1
    cases t3
    rw [k5] at t4
    cases t4
    exact hT
  obtain ⟨fd, cs, hT, nT, hC, hb, hsp, hF⟩ := F w mg fa _ KX G.T.g hmg empty
  exact law_callGT KX G.T.g G.T.b G.T.builtins G.T.nolimit hg hT nT hC G.T.bmain hobj hints (Nat.le_trans hlen hn2) hr hF hb fun H hH hS => hsp H a ns hlen hbits hH hS
/-! powers of larger ints -/
def CPowX (i j : Int) : Prop := 0 ≤ j ∧ (Builtin.Int.intBits i : Int) * j ≤ 2 ^ 27
theorem op_powX {X : Cx} : OpR X (binaryOp .Pow) (rI CPowX fun i j => .int (i ^ j.toNat)) := opI fun _ _ _ _ _ _ _ hc q => pow_int hc.1 hc.2 q
theorem bits_le {n : Int} {b : Nat} (h : n.natAbs < 2 ^ b) : Builtin.Int.intBits n ≤ b := by
  unfold Builtin.Int.intBits
  split
  · exact Nat.zero_le _
  · rename_i z
    have n0 : n.natAbs ≠ 0 := fun e => z (by rw [beq_iff_eq]; omega)
    have := (Nat.log2_lt n0).mpr h
    omega
theorem bits_lt {n : Int} {b : Nat} (h : Builtin.Int.intBits n ≤ b) : n.natAbs < 2 ^ b := by
  unfold Builtin.Int.intBits at h
  split at h
  · rename_i z
    rw [beq_iff_eq] at z
    subst z
    exact Nat.two_pow_pos _
  · rename_i z
    have n0 : n.natAbs ≠ 0 := fun e => z (by rw [beq_iff_eq]; omega)
    exact (Nat.log2_lt n0).mp (by omega)
end Jf
set_option Elab.async false
set_option linter.all false
set_option maxRecDepth 100000
set_option maxHeartbeats 4000000
namespace Jf
open PySem PySem.Spec PyProof.Rows L2 Evl
namespace So
open PySem.W (keyToks keyToksAll)
/-! data of numbers, texts and tuples of these -/
mutual
def td : PyData → Bool
  | .none => true
  | .int _ => true
  | .str _ => true
  | .tuple xs => tdA xs
  | _ => false
def tdA : List PyData → Bool
  | [] => true
  | x :: xs => td x && tdA xs
end
/-! the one may be asked whether it is less than the other: as far as both agree, and where they differ first, both are of a kind -/
mutual
def cmp : PyData → PyData → Bool
  | .none, .none => true
  | .int _, .int _ => true
  | .str _, .str _ => true
  | .tuple xs, .tuple ys => cmpA xs ys
  | _, _ => false
def cmpA : List PyData → List PyData → Bool
  | x :: xs, y :: ys => cmp x y && (!PyData.eqv x y || cmpA xs ys)
  | [], _ => true
  | _ :: _, [] => true
end
abbrev lx : List (Int ⊕ List Nat) → List (Int ⊕ List Nat) → Bool := PyProof.Rows.lexLt itemOrd
def dlt (x y : PyData) : Bool := lx (keyToks x) (keyToks y)
theorem cmpA_cons {x y : PyData} {xs ys : List PyData} (h : cmpA (x :: xs) (y :: ys) = true) : cmp x y = true ∧ (PyData.eqv x y = true → cmpA xs ys = true) := by
  rw [cmpA, Bool.and_eq_true, Bool.or_eq_true] at h
  refine ⟨h.1, fun e => ?_⟩
  rw [e] at h
  exact h.2.resolve_left (by simp)
theorem eqA_cons (x y : PyData) (xs ys : List PyData) : PyData.eqvAll (x :: xs) (y :: ys) = (PyData.eqv x y && PyData.eqvAll xs ys) := by rw [PyData.eqvAll]
theorem tkA_cons (x : PyData) (xs : List PyData) : keyToksAll (x :: xs) = Sum.inl 1 :: (keyToks x ++ keyToksAll xs) := by rw [keyToksAll]
theorem tkA_nil : keyToksAll [] = [Sum.inl 0] := by rw [keyToksAll]
theorem lx_one {p q : Int ⊕ List Nat} (ne : p ≠ q) (l m : List (Int ⊕ List Nat)) : lx (p :: l) (q :: m) = lx [p] [q] := PySem.W.lex_atom ne l m
theorem lx_same (p : Int ⊕ List Nat) (l m : List (Int ⊕ List Nat)) : lx (p :: l) (p :: m) = lx l m := PyProof.Rows.lex_self (O := itemOrd) p l m
theorem lx_front (p l m : List (Int ⊕ List Nat)) : lx (p ++ l) (p ++ m) = lx l m := PySem.W.lex_pre p l m
mutual
theorem tk_eqv : ∀ (x y : PyData), cmp x y = true → (PyData.eqv x y = true → x = y) ∧ (PyData.eqv x y = false → ∀ l m, lx (keyToks x ++ l) (keyToks y ++ m) = dlt x y)
  | .none, y, h => by
    cases y with
    | none => exact ⟨fun _ => rfl, fun e => absurd e (by simp [PyData.eqv])⟩
    | _ => exact absurd h (by simp [cmp])
  | .bool _, y, h => by cases y <;> exact absurd h (by simp [cmp])
  | .list _, y, h => by cases y <;> exact absurd h (by simp [cmp])
  | .dict _, y, h => by cases y <;> exact absurd h (by simp [cmp])
  | .int a, y, h => by
    cases y with
    | int b =>
      refine ⟨fun e => by rw [show a = b by simpa [PyData.eqv] using e], fun e l m => ?_⟩
      have ne : a ≠ b := fun q => by rw [q] at e; simp [PyData.eqv] at e
      unfold dlt
      simp only [keyToks]
      exact lx_one (fun q => ne (Sum.inl.inj q)) l m
    | _ => exact absurd h (by simp [cmp])
  | .str a, y, h => by
    cases y with
    | str b =>
      refine ⟨fun e => by rw [show a = b by simpa [PyData.eqv] using e], fun e l m => ?_⟩
      have ne : a ≠ b := fun q => by rw [q] at e; simp [PyData.eqv] at e
      unfold dlt
      simp only [keyToks]
      exact lx_one (fun q => ne (PySem.W.str_of_cps (Sum.inr.inj q))) l m
    | _ => exact absurd h (by simp [cmp])
  | .tuple xs, y, h => by
    cases y with
    | tuple ys =>
      obtain ⟨t1, t2⟩ := tkA_eqv xs ys (by simpa [cmp] using h)
      unfold dlt
      simp only [keyToks, PyData.eqv]
      exact ⟨fun e => by rw [t1 e], t2⟩
    | _ => exact absurd h (by simp [cmp])
theorem tkA_eqv : ∀ (xs ys : List PyData), cmpA xs ys = true → (PyData.eqvAll xs ys = true → xs = ys) ∧ (PyData.eqvAll xs ys = false → ∀ l m, lx (keyToksAll xs ++ l) (keyToksAll ys ++ m) = lx (keyToksAll xs) (keyToksAll ys))
  | [], [], _ => ⟨fun _ => rfl, fun e => absurd e (by simp [PyData.eqvAll])⟩
  | [], y :: ys, _ => ⟨fun e => absurd e (by simp [PyData.eqvAll]), fun _ l m => by
      rw [tkA_nil, tkA_cons]
      exact (lx_one (by simp) _ _).trans (lx_one (by simp) _ _).symm⟩
  | x :: xs, [], _ => ⟨fun e => absurd e (by simp [PyData.eqvAll]), fun _ l m => by
      rw [tkA_nil, tkA_cons]
      exact (lx_one (by simp) _ _).trans (lx_one (by simp) _ _).symm⟩
  | x :: xs, y :: ys, h => by
    obtain ⟨c1, c2⟩ := cmpA_cons h
    obtain ⟨a1, a2⟩ := tk_eqv x y c1
    rw [eqA_cons, tkA_cons, tkA_cons]
    cases hx : PyData.eqv x y with
    | true =>
      obtain ⟨b1, b2⟩ := tkA_eqv xs ys (c2 hx)
      cases a1 hx
      rw [Bool.true_and]
      refine ⟨fun e => by rw [b1 e], fun e l m => ?_⟩
      rw [List.cons_append, List.cons_append, List.append_assoc, List.append_assoc, lx_same, lx_same, lx_front, lx_front]
      exact b2 e l m
    | false =>
      rw [Bool.false_and]
      refine ⟨fun e => absurd e Bool.false_ne_true, fun _ l m => ?_⟩
      rw [List.cons_append, List.cons_append, List.append_assoc, List.append_assoc, lx_same, lx_same]
      exact (a2 hx _ _).trans (a2 hx _ _).symm
end
theorem lxA_yes {x y : PyData} {xs ys : List PyData} (h : cmp x y = true) (e : PyData.eqv x y = true) : lx (keyToksAll (x :: xs)) (keyToksAll (y :: ys)) = lx (keyToksAll xs) (keyToksAll ys) := by
  cases (tk_eqv x y h).1 e
  rw [tkA_cons, tkA_cons, lx_same, lx_front]
theorem lxA_no {x y : PyData} {xs ys : List PyData} (h : cmp x y = true) (e : PyData.eqv x y = false) : lx (keyToksAll (x :: xs)) (keyToksAll (y :: ys)) = dlt x y := by
  rw [tkA_cons, tkA_cons, lx_same]
  exact (tk_eqv x y h).2 e _ _
theorem dlt_tup (xs ys : List PyData) : dlt (.tuple xs) (.tuple ys) = lx (keyToksAll xs) (keyToksAll ys) := by
  unfold dlt
  simp only [keyToks]
theorem dlt_int (a b : Int) : dlt (.int a) (.int b) = decide (a < b) := by
  have h : dlt (.int a) (.int b) = PySem.W.dataLt (.int a) (.int b) := rfl
  rw [h, PySem.W.dataLt_int]
theorem dlt_str (a b : Str) : dlt (.str a) (.str b) = decide (a.cps.toList < b.cps.toList) := by
  have h : dlt (.str a) (.str b) = PySem.W.dataLt (.str a) (.str b) := rfl
  rw [h, PySem.W.dataLt_str]
/-- a strict weak order -/
theorem swo_dlt (f : Value → PyData) : SrtO.Swo fun v u => dlt (f v) (f u) := by
  refine ⟨fun x y h => ?_, fun x y z h1 h2 => ?_⟩
  · show dlt (f y) (f x) = false
    cases e : dlt (f y) (f x) with
    | false => rfl
    | true =>
      have := PyProof.Rows.lex_trans (O := itemOrd) _ _ _ h e
      rw [PyProof.Rows.lex_irrefl] at this
      exact this.symm
  · show dlt (f z) (f x) = false
    cases e : dlt (f z) (f x) with
    | false => rfl
    | true =>
      rcases PyProof.Rows.lex_negTrans (O := itemOrd) _ (keyToks (f y)) _ e with q | q
      · exact q.symm.trans h2
      · exact q.symm.trans h1
/-- neither is less: they are the same -/
theorem same_of {x y : PyData} (h : cmp x y = true) (h1 : dlt x y = false) (h2 : dlt y x = false) : PyData.eqv x y = true ∨ keyToks x = keyToks y := .inr (PyProof.Rows.lex_total (O := itemOrd) _ _ h1 h2)
/-! a row of signs tells the datum, of one kind -/
mutual
theorem tk_inj : ∀ (x y : PyData), cmp x y = true → ∀ l m, keyToks x ++ l = keyToks y ++ m → x = y ∧ l = m
  | .none, y, h => fun l m e => by
    cases y with
    | none =>
      simp only [keyToks, List.nil_append] at e
      exact ⟨rfl, e⟩
    | _ => exact absurd h (by simp [cmp])
  | .bool _, y, h => by cases y <;> exact absurd h (by simp [cmp])
  | .list _, y, h => by cases y <;> exact absurd h (by simp [cmp])
  | .dict _, y, h => by cases y <;> exact absurd h (by simp [cmp])
  | .int a, y, h => fun l m e => by
    cases y with
    | int b =>
      simp only [keyToks, List.cons_append, List.nil_append] at e
      obtain ⟨e1, e2⟩ := List.cons.inj e
      exact ⟨by rw [Sum.inl.inj e1], e2⟩
    | _ => exact absurd h (by simp [cmp])
  | .str a, y, h => fun l m e => by
    cases y with
    | str b =>
      simp only [keyToks, List.cons_append, List.nil_append] at e
      obtain ⟨e1, e2⟩ := List.cons.inj e
      exact ⟨by rw [PySem.W.str_of_cps (Sum.inr.inj e1)], e2⟩
    | _ => exact absurd h (by simp [cmp])
  | .tuple xs, y, h => fun l m e => by
    cases y with
    | tuple ys =>
      simp only [keyToks] at e
      obtain ⟨e1, e2⟩ := tkA_inj xs ys (by simpa [cmp] using h) l m e
      exact ⟨by rw [e1], e2⟩
    | _ => exact absurd h (by simp [cmp])
theorem tkA_inj : ∀ (xs ys : List PyData), cmpA xs ys = true → ∀ l m, keyToksAll xs ++ l = keyToksAll ys ++ m → xs = ys ∧ l = m
  | [], [], _ => fun l m e => by
    rw [tkA_nil] at e
    exact ⟨rfl, (List.cons.inj e).2⟩
  | [], y :: ys, _ => fun l m e => by
    rw [tkA_nil, tkA_cons] at e
    exact absurd (Sum.inl.inj (List.cons.inj e).1) (by decide)
  | x :: xs, [], _ => fun l m e => by
    rw [tkA_nil, tkA_cons] at e
    exact absurd (Sum.inl.inj (List.cons.inj e).1) (by decide)
  | x :: xs, y :: ys, h => fun l m e => by
    obtain ⟨c1, c2⟩ := cmpA_cons h
    rw [tkA_cons, tkA_cons, List.cons_append, List.cons_append, List.append_assoc, List.append_assoc] at e
    obtain ⟨e1, e2⟩ := tk_inj x y c1 _ _ (List.cons.inj e).2
    subst e1
    cases hx : PyData.eqv x x with
    | true =>
      obtain ⟨e3, e4⟩ := tkA_inj xs ys (c2 hx) _ _ e2
      exact ⟨by rw [e3], e4⟩
    | false =>
      have := (tk_eqv x x c1).2 hx [] [Sum.inl 0]
      have q := (tk_eqv x x c1).2 hx [Sum.inl 0] []
      rw [List.append_nil] at this q
      rw [← this] at q
      have a1 : lx (keyToks x ++ [Sum.inl 0]) (keyToks x) = false := by
        have z := lx_front (keyToks x) [Sum.inl 0] []
        rw [List.append_nil] at z
        rw [z]
        rfl
      have a2 : lx (keyToks x) (keyToks x ++ [Sum.inl 0]) = true := by
        have z := lx_front (keyToks x) [] [Sum.inl 0]
        rw [List.append_nil] at z
        rw [z]
        rfl
      rw [a1, a2] at q
      exact absurd q (by simp)
end
theorem eq_of {x y : PyData} (h : cmp x y = true) (h1 : dlt x y = false) (h2 : dlt y x = false) : x = y := by
  have e : keyToks x = keyToks y := PyProof.Rows.lex_total (O := itemOrd) _ _ h1 h2
  refine (tk_inj x y h [] [] ?_).1
  rw [List.append_nil, List.append_nil]
  exact e
/-! sorted rows of the same data are the same row -/
abbrev Sd (l : List PyData) : Prop := l.Pairwise fun x y => dlt y x = false
abbrev CmA (l : List PyData) : Prop := ∀ x ∈ l, ∀ y ∈ l, cmp x y = true
theorem sd_uniq : ∀ {a b : List PyData}, a.Perm b → CmA a → Sd a → Sd b → a = b
  | [], b, p, _, _, _ => (List.nil_perm.mp p).symm
  | x :: a, [], p, _, _, _ => absurd p.length_eq (by simp)
  | x :: a, y :: b, p, c, s1, s2 => by
    have mx : x ∈ y :: b := p.mem_iff.mp List.mem_cons_self
    have my : y ∈ x :: a := p.mem_iff.mpr List.mem_cons_self
    have exy : x = y := by
      rcases List.mem_cons.mp mx with e | mx
      · exact e
      · rcases List.mem_cons.mp my with e | my
        · exact e.symm
        · exact eq_of (c x List.mem_cons_self y (List.mem_cons_of_mem _ my)) ((List.pairwise_cons.mp s2).1 x mx) ((List.pairwise_cons.mp s1).1 y my)
    subst exy
    rw [sd_uniq (List.perm_cons _ |>.mp p) (fun u hu v hv => c u (List.mem_cons_of_mem _ hu) v (List.mem_cons_of_mem _ hv)) (List.pairwise_cons.mp s1).2 (List.pairwise_cons.mp s2).2]
def srt (l : List PyData) : List PyData := l.mergeSort fun x y => !dlt y x
theorem srt_perm (l : List PyData) : (srt l).Perm l := List.mergeSort_perm _ _
theorem srt_sd (l : List PyData) : Sd (srt l) := by
  have h := List.pairwise_mergeSort (le := fun x y => !dlt y x) (fun a b c h1 h2 => ?_) (fun a b => ?_) l
  · exact h.imp fun {x y} q => by simpa using q
  · have o := swo_dlt (fun v => match v with | .int 0 _ => a | .int 1 _ => b | _ => c)
    have := o.tr (.int 0 default) (.int 1 default) .none (by simpa using h1) (by simpa using h2)
    simpa using this
  · have o := swo_dlt (fun v => match v with | .int 0 _ => a | _ => b)
    cases e : dlt b a with
    | false => simp
    | true =>
      have := o.asym .none (.int 0 default) e
      simpa using this
theorem srt_of {l m : List PyData} (p : m.Perm l) (s : Sd m) (c : CmA l) : m = srt l :=
  sd_uniq (p.trans (srt_perm l).symm) (fun x hx y hy => c x (p.mem_iff.mp hx) y (p.mem_iff.mp hy)) s (srt_sd l)
/-! what values read as -/
mutual
theorem rd_one {h : Heap} : ∀ (d d' : PyData) (v : Value) (as bs : List Addr), td d = true → Reads h v d as → Reads h v d' bs → d = d'
  | .none, _, _, _, _, t, r, r' => by
    cases r
    cases r'
    rfl
  | .bool _, _, _, _, _, t, _, _ => absurd t (by simp [td])
  | .list _, _, _, _, _, t, _, _ => absurd t (by simp [td])
  | .dict _, _, _, _, _, t, _, _ => absurd t (by simp [td])
  | .int n, d', v, _, _, _, r, r' => by
    cases r
    cases r'
    rfl
  | .str n, d', v, _, _, _, r, r' => by
    cases r
    cases r'
    rfl
  | .tuple xs, d', v, as, bs, t, r, r' => by
    cases r with
    | tuple h1 h2 h3 h4 =>
      cases r' with
      | tuple k1 k2 k3 k4 =>
        cases h1.symm.trans k1
        cases h3.symm.trans k3
        rw [rdA_one _ _ _ _ _ (by simpa [td] using t) h4 k4]
      | list k1 k2 k3 k4 =>
        cases h1.symm.trans k1
        exact absurd (Value.type.inj (h2.symm.trans k2)) (by decide)
      | dict k1 k2 k3 k4 k5 =>
        cases h1.symm.trans k1
        exact absurd (Value.type.inj (h2.symm.trans k2)) (by decide)
theorem rdA_one {h : Heap} : ∀ (ds es : List PyData) (vs : List Value) (as bs : List Addr), tdA ds = true → ReadsAll h vs ds as → ReadsAll h vs es bs → ds = es
  | [], es, vs, _, _, _, r, r' => by
    cases r
    cases r'
    rfl
  | d :: ds, es, vs, _, _, t, r, r' => by
    have t' : td d = true ∧ tdA ds = true := by simpa [tdA] using t
    cases r with
    | cons r1 r2 =>
      cases r' with
      | cons q1 q2 => rw [rd_one _ _ _ _ _ t'.1 r1 q1, rdA_one _ _ _ _ _ t'.2 r2 q2]
end
mutual
theorem rd_keep {h h' : Heap} (kk : ∀ b o, h.get? b = some o → o.cls = .type "tuple" → h'.get? b = some o) : ∀ (d : PyData) (v : Value) (as : List Addr), td d = true → Reads h v d as → Reads h' v d as
  | .none, _, _, t, r => by
    cases r
    exact .none
  | .bool _, _, _, t, _ => absurd t (by simp [td])
  | .list _, _, _, t, _ => absurd t (by simp [td])
  | .dict _, _, _, t, _ => absurd t (by simp [td])
  | .int n, v, _, _, r => by
    cases r
    exact .int _ _
  | .str n, v, _, _, r => by
    cases r
    exact .str _ _
  | .tuple xs, v, as, t, r => by
    cases r with
    | tuple h1 h2 h3 h4 => exact .tuple (kk _ _ h1 h2) h2 h3 (rdA_keep kk _ _ _ (by simpa [td] using t) h4)
theorem rdA_keep {h h' : Heap} (kk : ∀ b o, h.get? b = some o → o.cls = .type "tuple" → h'.get? b = some o) : ∀ (ds : List PyData) (vs : List Value) (as : List Addr), tdA ds = true → ReadsAll h vs ds as → ReadsAll h' vs ds as
  | [], vs, _, _, r => by
    cases r
    exact .nil
  | d :: ds, vs, _, t, r => by
    have t' : td d = true ∧ tdA ds = true := by simpa [tdA] using t
    cases r with
    | cons r1 r2 => exact .cons (rd_keep kk _ _ _ t'.1 r1) (rdA_keep kk _ _ _ t'.2 r2)
end
/-- the datum that a value reads as -/
noncomputable def dOf (h : Heap) (v : Value) : PyData := open Classical in if q : ∃ d as, td d = true ∧ Reads h v d as then q.choose else .none
theorem none_eqv {x y : PyData} (h : cmp x y = true) (e : PyData.eqv x y = false) : x ≠ .none := by
  rintro rfl
  cases y with
  | none => exact absurd e (by simp [PyData.eqv])
  | _ => exact absurd h (by simp [cmp])
theorem dOf_eq {h : Heap} {v : Value} {d : PyData} {as : List Addr} (t : td d = true) (r : Reads h v d as) : dOf h v = d := by
  have q : ∃ d as, td d = true ∧ Reads h v d as := ⟨d, as, t, r⟩
  have e : dOf h v = q.choose := by
    unfold dOf
    rw [dif_pos q]
  obtain ⟨bs, h1, h2⟩ := q.choose_spec
  rw [e]
  exact (rd_one _ _ _ _ _ t r h2).symm
/-! which tuple is less: the first place that differs -/
def Fst (A : Around) (s : Shared) : List Value → List Value → Bool → Prop
  | x :: xs, y :: ys, k => ∃ e, SeqAt.EqAt A s x y e ∧ (e = true → Fst A s xs ys k) ∧ (e = false → SeqAt.RcLt A s x y k)
  | [], ys, k => k = decide (0 < ys.length)
  | _ :: _, [], k => k = false
section
open PySem.SeqAt
open PySem.AutoSeq1 (wpAny_loadPart')
open PySem.MeetsSeq PySem.MeetsSeq2 PySem.MeetsSeq3
theorem lt_first (l b : Addr) (u v : Array Value) (n n2 : Nat) (dd dd2 : Option Addr) (sl sl2 : Array (Option Value)) (k : Bool) :
    Meets (Builtin.«tuple.__lt__» ⟨[.ref l, .ref b], []⟩)
      (fun A R s => s.heap.get? l = some { cls := .type "tuple", dict := dd, data := .seq u n, slots := sl } ∧ s.heap.get? b = some { cls := .type "tuple", dict := dd2, data := .seq v n2, slots := sl2 } ∧
        Fst A.in1 s u.toList v.toList k ∧ R (.ok (.ret (.bool k))) s) :=
  .of_wp fun prog w A R s h => by
    obtain ⟨hp, g, d, tk, os⟩ := s
    obtain ⟨hl, hb, hf, h⟩ := h
    have f2 := AutoSeq1.sub_tuple_tuple
    wp_walk using wpAny_loadPart' hl, wpAny_loadPart' hb, wpAny_forIn_list _ (fun rest b s' => b.1 = none ∧ s' = ⟨hp, g, d, tk, os⟩ ∧ ∃ us vs, rest = List.zip us vs ∧ decide (us.length < vs.length) = decide (u.size < v.size) ∧ Fst A.in1 ⟨hp, g, d, tk, os⟩ us vs k) _
    case turn =>
      rintro ⟨y, x⟩ rest b s' ⟨hb', rfl, us, vs, hz, hs, hg⟩
      cases us with
      | nil => exact nomatch hz
      | cons p us =>
        cases vs with
        | nil => exact nomatch hz
        | cons q vs =>
          rw [List.zip_cons_cons] at hz
          obtain ⟨h1, h2⟩ := List.cons.inj hz
          obtain ⟨h3, h4⟩ := Prod.mk.inj h1
          subst h3 h4 h2
          obtain ⟨e, he, g1, g2⟩ := hg
          refine wpAny_bind (he prog w _ _ ?_)
          cases e with
          | true =>
            wp_walk
            exact ⟨rfl, rfl, us, vs, rfl, by rw [← hs, List.length_cons, List.length_cons]; exact decide_eq_decide.mpr (by omega), g1 rfl⟩
          | false =>
            have hri := g2 rfl prog w
            wp_walk using hri
            exact ⟨_, rfl, h⟩
    case fin =>
      rintro ⟨b1, b2⟩ s' ⟨hb', rfl, us, vs, hz, hs, hg⟩
      simp only at hb'
      subst hb'
      have ek : k = decide (u.size < v.size) := by
        rw [← hs]
        cases us with
        | nil => exact hg
        | cons p us =>
          cases vs with
          | nil => exact hg.trans (decide_eq_false (Nat.not_lt_zero _)).symm
          | cons q vs => exact nomatch hz
      rw [ek] at h
      wp_walk
      exact ⟨_, rfl, by simpa [Builtin.Tuple.tupleCompareSizes] using h⟩
    case h =>
      exact ⟨rfl, rfl, u.toList, v.toList, rfl, by simp, hf⟩
theorem rc_first {A : Around} {s : Shared} {l b : Addr} {u v : Array Value} {k : Bool} (hl : s.heap.IsTuple l u) (hb : s.heap.IsTuple b v) (hu : A.units < cLine) (hf : Fst A.in1 s u.toList v.toList k) : RcLt A s (.ref l) (.ref b) k := fun prog w E Q h => by
  obtain ⟨⟨c1, d1, t1, s1⟩, ho, hc, n, hd⟩ := id hl
  obtain ⟨⟨c2, d2, t2, s2⟩, ho2, hc2, n2, hd2⟩ := id hb
  simp only at hc hd hc2 hd2
  subst hc hd hc2 hd2
  exact richCompare_meets_room (op := .Lt) ⟨_, ho, rfl⟩ ⟨_, ho2, rfl⟩ PySem.F.slot_tuple_lt PySem.F.entry_tuple_lt (PySem.F.args_tuple_lt_2 _ _) (lt_first l b u v n n2 d1 d2 s1 s2 k)
    ⟨ho, ho2, hf, show Value.bool k ≠ Value.notImplemented ∧ Q (.bool k) s from ⟨(fun z => nomatch z), h⟩⟩ hu
end
theorem units_in1 {A : Around} {m n : Nat} (h : A.units + (m + 1) < n) : A.in1.units + m < n := by
  have e : A.in1.units = A.units + 1 := rfl
  omega
mutual
theorem rc_lt : ∀ (x y : PyData) (A : Around) (s : Shared) (a b : Value) (as bs : List Addr), Reads s.heap a x as → Reads s.heap b y bs → x.canLay0 = true → y.canLay0 = true → cmp x y = true → x ≠ .none → A.units + x.depth < cLine → SeqAt.RcLt A s a b (dlt x y)
  | .none, y, _, _, _, _, _, _, _, _, _, _, h, n, _ => absurd rfl n
  | .bool _, y, _, _, _, _, _, _, _, _, _, _, h, _, _ => by cases y <;> exact absurd h (by simp [cmp])
  | .list _, y, _, _, _, _, _, _, _, _, _, _, h, _, _ => by cases y <;> exact absurd h (by simp [cmp])
  | .dict _, y, _, _, _, _, _, _, _, _, _, _, h, _, _ => by cases y <;> exact absurd h (by simp [cmp])
  | .int m, y, A, s, a, b, _, _, ra, rb, _, _, h, _, _ => by
    cases y with
    | int n =>
      cases ra
      cases rb
      rw [dlt_int]
      exact fun prog w E Q q => HT.rcLt_int A s _ _ _ _ prog w E Q q
    | _ => exact absurd h (by simp [cmp])
  | .str m, y, A, s, a, b, _, _, ra, rb, _, _, h, _, _ => by
    cases y with
    | str n =>
      cases ra
      cases rb
      rw [dlt_str]
      exact fun prog w E Q q => DT.rcLt_str A s _ _ _ _ prog w E Q q
    | _ => exact absurd h (by simp [cmp])
  | .tuple xs, y, A, s, a, b, _, _, ra, rb, la, lb, h, _, hu => by
    cases y with
    | tuple ys =>
      cases ra with
      | tuple h1 h2 h3 h4 =>
        cases rb with
        | tuple k1 k2 k3 k4 =>
          rw [dlt_tup]
          exact rc_first ⟨_, h1, h2, _, h3⟩ ⟨_, k1, k2, _, k3⟩ (by omega) (fst_lt xs ys A.in1 s _ _ _ _ h4 k4 (by simpa [PyData.canLay0] using la) (by simpa [PyData.canLay0] using lb) (by simpa [cmp] using h) (by
            rw [PyData.depth] at hu
            exact units_in1 hu))
    | _ => exact absurd h (by simp [cmp])
theorem fst_lt : ∀ (xs ys : List PyData) (A : Around) (s : Shared) (us vs : List Value) (as bs : List Addr), ReadsAll s.heap us xs as → ReadsAll s.heap vs ys bs → PyData.canLayAll0 xs = true → PyData.canLayAll0 ys = true → cmpA xs ys = true → A.units + PyData.depthAll xs < cLine → Fst A s us vs (lx (keyToksAll xs) (keyToksAll ys))
  | [], [], _, _, _, _, _, _, ra, rb, _, _, _, _ => by
    cases ra
    cases rb
    rfl
  | [], y :: ys, _, _, _, _, _, _, ra, rb, _, _, _, _ => by
    cases ra
    cases rb
    rw [tkA_nil, tkA_cons]
    show lx _ _ = _
    rw [lx_one (by simp)]
    simp
    rfl
  | x :: xs, [], _, _, _, _, _, _, ra, rb, _, _, _, _ => by
    cases ra
    cases rb
    rw [tkA_nil, tkA_cons]
    show lx _ _ = _
    rw [lx_one (by simp)]
    rfl
  | x :: xs, y :: ys, A, s, _, _, _, _, ra, rb, la, lb, h, hu => by
    obtain ⟨c1, c2⟩ := cmpA_cons h
    have la' : x.canLay0 = true ∧ PyData.canLayAll0 xs = true := by simpa [PyData.canLayAll0] using la
    have lb' : y.canLay0 = true ∧ PyData.canLayAll0 ys = true := by simpa [PyData.canLayAll0] using lb
    have dx : PyData.depthAll (x :: xs) = max x.depth (PyData.depthAll xs) := by rw [PyData.depthAll]
    cases ra with
    | cons r1 r2 =>
      cases rb with
      | cons q1 q2 =>
        refine ⟨PyData.eqv x y, SeqAt.eqAt_reads x y A s _ _ _ _ r1 q1 la'.1 lb'.1 (by omega), fun e => ?_, fun e => ?_⟩
        · rw [lxA_yes c1 e]
          exact fst_lt xs ys A s _ _ _ _ r2 q2 la'.2 lb'.2 (c2 e) (by omega)
        · rw [lxA_no c1 e]
          exact rc_lt x y A s _ _ _ _ r1 q1 la'.1 lb'.1 c1 (none_eqv c1 e) (by omega)
end
/-! sorting them -/
section
variable {prog : Program} {w : World} {A : Around} {s : Shared} {Q : Bool → Shared → Prop}
theorem one_lt {f : Bool} {x y : PyData} {a b : Value} {as bs : List Addr} (hf : f = true → ∀ t, x ≠ .tuple t) (ra : Reads s.heap a x as) (rb : Reads s.heap b y bs) (la : x.canLay0 = true) (lb : y.canLay0 = true) (h : cmp x y = true) (hn : x ≠ .none) (hu : A.units + x.depth < cLine) (hq : Q (dlt x y) s) (E : Value → Shared → Prop) :
    wpAny (model prog w) A (oneLt' f a b) Q E s := by
  cases x with
  | int m =>
    cases y with
    | int n =>
      cases ra
      cases rb
      rw [dlt_int] at hq
      exact PyProof.Rows.oneLt_any_int hq
    | _ => exact absurd h (by simp [cmp])
  | str m =>
    cases y with
    | str n =>
      cases ra
      cases rb
      rw [dlt_str] at hq
      exact PyProof.Rows.oneLt_any_str hq
    | _ => exact absurd h (by simp [cmp])
  | tuple xs =>
    cases f with
    | true => exact absurd rfl (hf rfl xs)
    | false => exact PySem.W.kat_one a b (rc_lt _ _ A s a b _ _ ra rb la lb h hn hu prog w E _ hq)
  | none => exact absurd rfl hn
  | _ => cases y <;> exact absurd h (by simp [cmp])
theorem kat_of {b fin : Bool} : ∀ (xs ys : List PyData) (i : Nat) (us vs : List Value) (as bs : List Addr), ReadsAll s.heap us xs as → ReadsAll s.heap vs ys bs → PyData.canLayAll0 xs = true → PyData.canLayAll0 ys = true → cmpA xs ys = true → A.units + PyData.depthAll xs < cLine →
    (b = true → i = 0 → ∀ x r, xs = x :: r → ∀ t, x ≠ .tuple t) → fin = decide (xs.length < ys.length) → Q (lx (keyToksAll xs) (keyToksAll ys)) s → PySem.W.KatLex prog w A b fin Q (us.zip vs) i s
  | [], ys, i, _, _, _, _, ra, rb, _, _, _, _, _, hf, hq => by
    cases ra
    rw [List.zip_nil_left]
    refine PySem.W.kat_nil ?_
    cases ys with
    | nil =>
      have e : lx (keyToksAll []) (keyToksAll []) = fin := by rw [hf]; rfl
      exact e ▸ hq
    | cons y ys =>
      have e : lx (keyToksAll []) (keyToksAll (y :: ys)) = fin := by
        rw [hf, tkA_nil, tkA_cons, lx_one (by simp)]
        simp
        rfl
      exact e ▸ hq
  | x :: xs, [], i, _, _, _, _, ra, rb, _, _, _, _, _, hf, hq => by
    cases rb
    rw [List.zip_nil_right]
    refine PySem.W.kat_nil ?_
    have e : lx (keyToksAll (x :: xs)) (keyToksAll []) = fin := by
      rw [hf, tkA_nil, tkA_cons, lx_one (by simp)]
      rfl
    exact e ▸ hq
  | x :: xs, y :: ys, i, _, _, _, _, ra, rb, la, lb, h, hu, hb, hf, hq => by
    obtain ⟨c1, c2⟩ := cmpA_cons h
    have la' : x.canLay0 = true ∧ PyData.canLayAll0 xs = true := by simpa [PyData.canLayAll0] using la
    have lb' : y.canLay0 = true ∧ PyData.canLayAll0 ys = true := by simpa [PyData.canLayAll0] using lb
    have dx : PyData.depthAll (x :: xs) = max x.depth (PyData.depthAll xs) := by rw [PyData.depthAll]
    cases ra with
    | cons r1 r2 =>
      cases rb with
      | cons q1 q2 =>
        rw [List.zip_cons_cons]
        refine PySem.W.kat_cons (SeqAt.eqAt_reads x y A s _ _ _ _ r1 q1 la'.1 lb'.1 (by omega) prog w _ _ (PySem.W.kat_go (fun e => ?_) fun e => ?_))
        · rw [lxA_yes c1 e] at hq
          exact PySem.W.kat_yes (kat_of xs ys (i + 1) _ _ _ _ r2 q2 la'.2 lb'.2 (c2 e) (by omega) (fun _ z => absurd z (Nat.succ_ne_zero i)) (by rw [hf, List.length_cons, List.length_cons]; exact decide_eq_decide.mpr (by omega)) hq)
        · rw [lxA_no c1 e] at hq
          refine PySem.W.kat_no (one_lt (fun z => ?_) r1 q1 la'.1 lb'.1 c1 (none_eqv c1 e) (by omega) hq _)
          rw [Bool.and_eq_true] at z
          exact hb z.1 (by simpa using z.2) x xs rfl
/-- what stands at the head of a tuple -/
def hdT : PyData → PyData
  | .tuple (x :: _) => x
  | _ => .none
/-- rows that may be sorted: tuples, each with a head of one kind -/
structure Rw (n : Nat) (ds : List PyData) : Prop where
  td : tdA ds = true
  lay : ∀ d ∈ ds, d.canLay0 = true
  deep : ∀ d ∈ ds, d.depth ≤ n
  cm : CmA ds
  hd : ∀ d ∈ ds, ∃ x r, d = .tuple (x :: r)
theorem tdA_mem : ∀ {ds : List PyData}, tdA ds = true → ∀ d ∈ ds, td d = true
  | [], _, d, h => nomatch h
  | x :: ds, t, d, h => by
    have t' : td x = true ∧ tdA ds = true := by simpa [tdA] using t
    rcases List.mem_cons.mp h with rfl | h
    · exact t'.1
    · exact tdA_mem t'.2 d h
theorem tdA_of : ∀ {ds : List PyData}, (∀ d ∈ ds, td d = true) → tdA ds = true
  | [], _ => rfl
  | x :: ds, h => by
    rw [tdA, h x List.mem_cons_self, tdA_of fun d hd => h d (List.mem_cons_of_mem _ hd)]
    rfl
theorem rdA_mem {h : Heap} : ∀ {ds : List PyData} {vs : List Value} {as : List Addr}, ReadsAll h vs ds as → ∀ v ∈ vs, ∃ d ∈ ds, ∃ bs, Reads h v d bs
  | _, _, _, .nil, v, hv => nomatch hv
  | _, _, _, .cons r rs, v, hv => by
    rcases List.mem_cons.mp hv with rfl | hv
    · exact ⟨_, List.mem_cons_self, _, r⟩
    · obtain ⟨d, hd, bs, q⟩ := rdA_mem rs v hv
      exact ⟨d, List.mem_cons_of_mem _ hd, bs, q⟩
theorem firsts_rd {h : Heap} : ∀ {ds : List PyData} {vs : List Value} {as : List Addr}, ReadsAll h vs ds as → (∀ d ∈ ds, ∃ x r, d = .tuple (x :: r)) → ∃ fs, PySem.W.KatTups h vs fs ∧ fs.length = vs.length ∧ ∀ f ∈ fs, ∃ x r bs, .tuple (x :: r) ∈ ds ∧ Reads h f x bs
  | _, _, _, .nil, _ => ⟨[], PySem.W.KatTups.nil, rfl, fun _ hf => nomatch hf⟩
  | _, _, _, .cons (d := d) r rs, ht => by
    obtain ⟨fs, g1, g2, g3⟩ := firsts_rd rs fun d hd => ht d (List.mem_cons_of_mem _ hd)
    obtain ⟨x, rest, rfl⟩ := ht d List.mem_cons_self
    cases r with
    | @tuple a o xs n _ _ h1 h2 h3 h4 =>
      cases q : xs.toList with
      | nil =>
        rw [q] at h4
        cases h4
      | cons f fr =>
        rw [q] at h4
        cases h4 with
        | cons r1 r2 =>
          have hf : xs[0]? = some f := by rw [← Array.getElem?_toList, q]; rfl
          refine ⟨f :: fs, PySem.W.KatTups.cons h1 h2 h3 hf g1, by rw [List.length_cons, List.length_cons, g2], fun g hg => ?_⟩
          rcases List.mem_cons.mp hg with rfl | hg
          · exact ⟨x, rest, _, List.mem_cons_self, r1⟩
          · obtain ⟨x', r', bs, m1, m2⟩ := g3 g hg
            exact ⟨x', r', bs, List.mem_cons_of_mem _ m1, m2⟩
/-- of one kind -/
theorem kind_same {x y : PyData} (h : cmp x y = true) : PySem.W.dataType x = PySem.W.dataType y := by
  cases x <;> cases y <;> first | rfl | exact absurd h (by simp [cmp])
theorem rows_sortable {n : Nat} {a : Addr} {vs : List Value} {ds : List PyData} {as : List Addr} (h2 : 2 ≤ vs.length) (R : Rw n ds) (r : ReadsAll s.heap vs ds as) (hu : A.units + n < cLine) (ha : ∀ o, s.heap.get? a = some o → o.cls ≠ .type "tuple") :
    SrtO.SortableO prog w A s a vs fun v u => dlt (dOf s.heap v) (dOf s.heap u) := by
  intro h' keep
  have kk : ∀ b o, s.heap.get? b = some o → o.cls = .type "tuple" → h'.get? b = some o := fun b o e c => keep b o (fun z => by subst z; exact ha o e c) e
  have r' : ReadsAll h' vs ds as := rdA_keep kk _ _ _ R.td r
  obtain ⟨fs, g1, g2, g3⟩ := firsts_rd r' R.hd
  obtain ⟨d0, hd0⟩ : ∃ d0, d0 ∈ ds := by
    have e := SeqAt.ReadsAll.length _ _ _ r
    cases ds with
    | nil => rw [e] at h2; exact absurd h2 (by simp)
    | cons d ds => exact ⟨d, List.mem_cons_self⟩
  obtain ⟨x0, r0, e0⟩ := R.hd d0 hd0
  have same : ∀ x r, PyData.tuple (x :: r) ∈ ds → PySem.W.dataType x = PySem.W.dataType x0 := fun x r hm => by
    have c := R.cm _ hm _ hd0
    rw [e0] at c
    exact kind_same (cmpA_cons (show cmpA (x :: r) (x0 :: r0) = true by simpa [cmp] using c)).1
  refine ⟨tuples' (PySem.W.dataType x0 != Value.type "tuple"), fun Q E hq => ?_, fun p q hp hq => ?_⟩
  · refine PySem.W.kat_kind (T := PySem.W.dataType x0) g1 (by omega) (fun f hf => ?_) (beq_self_eq_true _) hq
    obtain ⟨x, rr, bs, m1, m2⟩ := g3 f hf
    rw [← same x rr m1]
    exact PySem.W.looks_reads m2
  · obtain ⟨d, hd, bs, rd⟩ := rdA_mem r _ hp
    obtain ⟨e, he, cs, re⟩ := rdA_mem r _ hq
    have tdd := tdA_mem R.td d hd
    have tde := tdA_mem R.td e he
    show wpAny (model prog w) A (keyLt' (tuples' _) p.1 q.1) (fun r s' => s' = { s with heap := h' } ∧ r = dlt (dOf s.heap p.1) (dOf s.heap q.1)) (fun _ _ => False) { s with heap := h' }
    rw [dOf_eq tdd rd, dOf_eq tde re]
    have rd' := rd_keep kk _ _ _ tdd rd
    have re' := rd_keep kk _ _ _ tde re
    have c := R.cm d hd e he
    obtain ⟨x, rx, rfl⟩ := R.hd d hd
    obtain ⟨y, ry, rfl⟩ := R.hd e he
    generalize p.1 = u at rd' ⊢
    generalize q.1 = v at re' ⊢
    have l1 := R.lay _ hd
    have l2 := R.lay _ he
    have dp := R.deep _ hd
    cases rd' with
    | tuple h1 h2 h3 h4 =>
      cases re' with
      | tuple k1 k2 k3 k4 =>
        have n1 := SeqAt.ReadsAll.length _ _ _ h4
        have n2 := SeqAt.ReadsAll.length _ _ _ k4
        rw [Array.length_toList] at n1 n2
        rw [dlt_tup]
        refine PySem.W.kat_lt (s := { s with heap := h' }) h1 h3 k1 k3 (kat_of (s := { s with heap := h' }) (x :: rx) (y :: ry) 0 _ _ _ _ h4 k4 (by simpa [PyData.canLay0] using l1) (by simpa [PyData.canLay0] using l2) (by simpa [cmp] using c) ?_ (fun hb _ x' r' ex t et => ?_) (by rw [n1, n2]) ⟨rfl, rfl⟩)
        · have : PyData.depth (.tuple (x :: rx)) = PyData.depthAll (x :: rx) + 1 := by rw [PyData.depth]
          omega
        · obtain ⟨rfl, rfl⟩ := List.cons.inj ex
          rw [← same _ _ hd, et] at hb
          exact absurd (show (Value.type "tuple" != Value.type "tuple") = true from hb) (by decide)
end
theorem perm_vals {K : PySem.W.Frag} {p : Addr} {H : Hp} {its out : List Value} (pm : its.Perm out) : ∀ (xs : List V) (ds : List PyData), Vals xs its → DqAll K p H xs ds → ∃ ys es, Vals ys out ∧ DqAll K p H ys es ∧ es.Perm ds := by
  induction pm with
  | nil => exact fun xs ds r q => ⟨xs, ds, r, q, .refl _⟩
  | cons v _ ih =>
    intro xs ds r q
    cases r with
    | cons r1 r2 =>
      cases q with
      | cons q1 q2 =>
        obtain ⟨ys, es, a, b, c⟩ := ih _ _ r2 q2
        exact ⟨_, _, .cons r1 a, .cons q1 b, c.cons _⟩
  | swap u v l =>
    intro xs ds r q
    cases r with
    | cons r1 r2 =>
      cases r2 with
      | cons r2 r3 =>
        cases q with
        | cons q1 q2 =>
          cases q2 with
          | cons q2 q3 => exact ⟨_, _, .cons r2 (.cons r1 r3), .cons q2 (.cons q1 q3), .swap _ _ _⟩
  | trans _ _ ih1 ih2 =>
    intro xs ds r q
    obtain ⟨ys, es, a, b, c⟩ := ih1 _ _ r q
    obtain ⟨zs, fs, a2, b2, c2⟩ := ih2 _ _ a b
    exact ⟨zs, fs, a2, b2, c2.trans c⟩
theorem rdA_memD {h : Heap} : ∀ {ds : List PyData} {vs : List Value} {as : List Addr}, ReadsAll h vs ds as → ∀ d ∈ ds, ∃ v ∈ vs, ∃ bs, Reads h v d bs
  | _, _, _, .nil, d, hd => nomatch hd
  | _, _, _, .cons r rs, d, hd => by
    rcases List.mem_cons.mp hd with rfl | hd
    · exact ⟨_, List.mem_cons_self, _, r⟩
    · obtain ⟨v, hv, bs, q⟩ := rdA_memD rs d hd
      exact ⟨v, List.mem_cons_of_mem _ hv, bs, q⟩
theorem sd_out {h : Heap} : ∀ {es : List PyData} {out : List Value} {as : List Addr}, ReadsAll h out es as → tdA es = true → SrtO.Srtd (fun v u => dlt (dOf h v) (dOf h u)) out → Sd es
  | _, _, _, .nil, _, _ => .nil
  | _, _, _, .cons (v := v) (vs := vs) (d := d) (ds := ds) r rs, t, q => by
    have t' : td d = true ∧ tdA ds = true := by simpa [tdA] using t
    obtain ⟨q1, q2⟩ := List.pairwise_cons.mp q
    refine List.pairwise_cons.mpr ⟨fun e he => ?_, sd_out rs t'.2 q2⟩
    obtain ⟨u, hu, bs, ru⟩ := rdA_memD rs e he
    have z : dlt (dOf h u) (dOf h v) = false := q1 u hu
    rw [dOf_eq t'.1 r, dOf_eq (tdA_mem t'.2 e he) ru] at z
    exact z
def rSortedD (K : PySem.W.Frag) : List V → Hp → VK → Prop := fun vs H Q => ∃ (a p : Addr) (xs : List V) (ds : List PyData), vs = [V.ref a] ∧ SqL K H a xs ∧ DqAll K p H xs ds ∧ Rw 60 ds ∧
  ∀ (ys : List V) (b : Addr), DqAll K p H ys (srt ds) → H b = none → Q (.ref b) (upd H b (.lst ys))
theorem cr_sortedD {X : Cx} (hX : X.A.units + 62 < cLine) : CallR X (.builtin "sorted") (rSortedD X.K) := by
  intro pins s σ H vs us Q I r h
  obtain ⟨a, p, xs, ds, rfl, hs, hd, R, q⟩ := h
  obtain ⟨its, rv, hl, hz⟩ := I.list hs
  rw [Vals.ref1 r]
  obtain ⟨as, ra, _⟩ := DqAll.reads I ds xs its hd rv
  have un : X.A.in1.in1.units + 60 < cLine := by
    have e : X.A.in1.in1.units = X.A.units + 1 + 1 := rfl
    omega
  refine SrtO.sorted_ord (ltv := fun v u => dlt (dOf s.heap v) (dOf s.heap u)) (swo_dlt (dOf s.heap)) hl.isList (by rw [← rv.length]; exact hz) (fun h2 h₁ a' ha kp => ?_) fun out h1 h2 => ?_
  · have kk : ∀ b o, s.heap.get? b = some o → o.cls = .type "tuple" → h₁.get? b = some o := fun b o e _ => (kp b o e).2
    have ra1 : ReadsAll h₁ its ds as := rdA_keep kk _ _ _ R.td ra
    have e : (fun v u => dlt (dOf s.heap v) (dOf s.heap u)) = fun v u => dlt (dOf s.heap v) (dOf s.heap u) := rfl
    have S := rows_sortable (prog := X.prog) (w := X.w) (s := { s with heap := h₁ }) (a := a') h2 R ra1 un fun o eo => by
      cases (show some o = some (seqObj "list" its.toArray 0) from eo.symm.trans ha)
      intro c
      exact absurd (Value.type.inj c) (by decide)
    intro h' keep
    obtain ⟨κ, k1, k2⟩ := S h' keep
    refine ⟨κ, k1, fun u v hu hv => ?_⟩
    have eq : ∀ z ∈ its, dOf h₁ z = dOf s.heap z := fun z hz => by
      obtain ⟨d, hd, bs, rd⟩ := rdA_mem ra z hz
      have tdd := tdA_mem R.td d hd
      rw [dOf_eq tdd rd, dOf_eq tdd (rd_keep kk _ _ _ tdd rd)]
    have g := k2 u v hu hv
    show wpAny (model X.prog X.w) X.A.in1.in1 (keyLt' κ u.1 v.1) (fun r s' => s' = { s with heap := h' } ∧ r = dlt (dOf s.heap u.1) (dOf s.heap v.1)) (fun _ _ => False) { s with heap := h' }
    rw [← eq _ hu, ← eq _ hv]
    exact g
  · obtain ⟨ys, es, rvo, hq, pm⟩ := perm_vals h2.perm.symm xs ds rv hd
    obtain ⟨bs, ro, _⟩ := DqAll.reads I es ys out hq rvo
    have te : tdA es = true := tdA_of fun d hd => tdA_mem R.td d (pm.mem_iff.mp hd)
    have ee : es = srt ds := srt_of pm (sd_out ro te h1) R.cm
    obtain ⟨ep, he'⟩ := PyProof.Rows.sortedAll_at s.heap its out.toArray
    have hlen : ys.length ≤ sizeLine := by
      have l1 := rvo.length
      have l2 := h2.perm.length_eq
      have l3 := rv.length
      omega
    rw [ee] at hq
    exact ⟨.ref _, upd H (s.heap.objs.size + 1) (.lst ys), I.laid (t' := s.toks) (fun _ _ => PyProof.Rows.sortedAll_old) (Nat.le_succ _) ⟨hlen, out, ep, rvo, he'⟩, rfl, q _ _ hq (I.hok.fresh (Nat.le_succ _))⟩
end So
end Jf
set_option Elab.async false
set_option linter.all false
set_option maxRecDepth 100000
namespace Jf
open PySem PySem.Spec PyProof.Rows L2
/-- a class of the program's own -/
structure CT (K : PySem.W.Frag) (mg : Str → Option Value) (x : Str) where
  C : Addr
  g : mg x = some (.ref C)
  cl : Cls K C
  made : PySem.W.makesIn K C = true
  kp : PySem.W.keepIn K (.ref C) = true
/-- one of its methods -/
structure MT (K : PySem.W.Frag) (C : Addr) (m qual : Str) (st : Stmt) (ps : List Str) where
  a : Addr
  fd : FuncData
  F : Fun K m qual st a fd
  b : Binds K fd ps []
  me : Meth K C m a
theorem CT.maker {K : PySem.W.Frag} {mg : Str → Option Value} {x : Str} (c : CT K mg x) {f : Addr} (m : Meth K c.C "__init__" f) : Mk K c.C f := ⟨c.made, m.at_, m.fn, c.kp⟩
/-! ### a text times an int -/
def rMulS : R2 := fun x y H Q => ∃ (a : Str) (i : Int), x = .str a ∧ y = .int i ∧ MulOk a i ∧ Q (.str (Txt.mul a i)) H
theorem op_mulS {X : Cx} : OpR X (binaryOp .Mult) rMulS := by
  intro pins s σ H x y v u Q I rx ry h
  obtain ⟨a, i, rfl, rfl, hok, q⟩ := h
  obtain ⟨t, rfl⟩ := (show ∃ t, v = Value.str a t from rx)
  obtain ⟨t', rfl⟩ := (show ∃ t', u = Value.int i t' from ry)
  refine SB.mul hok fun t'' k => ⟨.str (Txt.mul a i), H, I.tok _, ⟨_, rfl⟩, q⟩
end Jf
set_option Elab.async false
set_option linter.all false
set_option maxRecDepth 100000
namespace Jf
open PySem PySem.Spec PyProof.Rows L2
/-! ### list(text) -/
def sgnV (c : Nat) : V := .str ⟨#[c]⟩
def rListS : List V → Hp → VK → Prop := fun xs H Q => ∃ x : Str, xs = [.str x] ∧ x.length ≤ sizeLine ∧ ∀ q, H q = none → Q (.ref q) (upd H q (.lst (x.cps.toList.map sgnV)))
theorem call_list_txt {X : Cx} (hc : X.calm = true) : CallR X (.type "list") rListS := by
  intro pins s σ H xs us Q I r h
  obtain ⟨x, rfl, hz, q⟩ := h
  obtain ⟨u, rfl, rx⟩ := vals1 r
  obtain ⟨t, rfl⟩ := (show ∃ t, u = Value.str x t from rx)
  refine call_list_str (I.ok.hd hc) x t (fun h' tk acc' c' hkeep hS hacc => ?_) hz
  refine ⟨.ref s.heap.objs.size, upd H s.heap.objs.size (.lst (x.cps.toList.map sgnV)), I.laid hkeep (Nat.le_refl _) (show ObjOk X.prog X.w _ _ _ (.lst (x.cps.toList.map sgnV)) from ⟨?_, acc'.toList, c', ?_, ?_⟩), rfl, q _ (I.hok.fresh (Nat.le_refl _))⟩
  · rw [List.length_map]
    exact hz
  · refine vals_of_at (by simp [hacc.1]) fun j z w h1 h2 => ?_
    obtain ⟨c, u, hx, rfl⟩ := hacc.2 j w (by rw [← Array.getElem?_toList]; exact h2)
    rw [List.getElem?_map, Array.getElem?_toList, hx] at h1
    cases h1
    exact ⟨u, rfl⟩
  · rw [Array.toArray_toList]
    exact hS
end Jf
set_option Elab.async false
set_option linter.all false
set_option maxRecDepth 100000
set_option maxHeartbeats 4000000
namespace Jf
open PySem PySem.Spec PyProof.Rows L2 Evl
/-! ### the text -/
def topS (i : Nat) : Stmt := PySem.Challenge.pw_onenumber_k16_texts_of_none.main.body.getD i (.Pass ⟨0, 0, 0, 0⟩)
abbrev s_is_whole : Stmt := topS 5
abbrev n_is_whole : List Str := ["value"]
abbrev s_is_fraction : Stmt := topS 6
abbrev n_is_fraction : List Str := ["value", "top", "bottom"]
abbrev s_are_figures : Stmt := topS 14
abbrev n_are_figures : List Str := ["word", "sign"]
abbrev s_parse_fraction : Stmt := topS 15
abbrev n_parse_fraction : List Str := ["word", "above", "slash", "below", "unsigned", "amount"]
abbrev s_parse_term : Stmt := topS 17
abbrev n_parse_term : List Str := ["text", "reader", "term"]
abbrev s_parse_mix : Stmt := topS 18
abbrev n_parse_mix : List Str := ["text", "reader", "mix"]
abbrev s__law_tape : Stmt := topS 20
abbrev n__law_tape : List Str := ["_law_script", "_law_first", "_law_mixed", "_law_cell", "_law_digits"]
abbrev s__law_pick : Stmt := topS 21
abbrev n__law_pick : List Str := ["_law_tape_here", "_law_many", "_law_found", "_law_once"]
abbrev s__law_one_of : Stmt := topS 22
abbrev n__law_one_of : List Str := ["_law_tape_here", "_law_things"]
abbrev s__law_frac : Stmt := topS 23
abbrev n__law_frac : List Str := ["_law_top", "_law_bottom", "_law_one", "_law_other"]
abbrev s__law_drawn_pay : Stmt := topS 24
abbrev n__law_drawn_pay : List Str := ["_law_tape_here", "_law_far"]
abbrev s__law_drawn_weight : Stmt := topS 25
abbrev n__law_drawn_weight : List Str := ["_law_tape_here"]
abbrev s__law_drawn_term : Stmt := topS 26
abbrev n__law_drawn_term : List Str := ["_law_tape_here", "_law_deep", "_law_room", "_law_found"]
abbrev s__law_within : Stmt := topS 27
abbrev n__law_within : List Str := ["_law_term", "_law_one"]
abbrev s__law_counts : Stmt := topS 28
abbrev n__law_counts : List Str := ["_law_term", "_law_counts_here", "_law_one"]
abbrev s__law_drawn_mix : Stmt := topS 29
abbrev n__law_drawn_mix : List Str := ["_law_tape_here", "_law_most", "_law_room", "_law_look"]
abbrev s__law_long : Stmt := topS 30
abbrev n__law_long : List Str := ["_law_many", "_law_found", "_law_at"]
abbrev s__law_wide : Stmt := topS 31
abbrev n__law_wide : List Str := ["_law_many", "_law_found", "_law_at"]
abbrev s__law_number : Stmt := topS 32
abbrev n__law_number : List Str := ["_law_value"]
abbrev s__law_words : Stmt := topS 33
abbrev n__law_words : List Str := ["_law_term", "_law_found", "_law_one", "_law_weight"]
abbrev s__law_mix_words : Stmt := topS 34
abbrev n__law_mix_words : List Str := ["_law_mix", "_law_found", "_law_term"]
abbrev s__law_grown_term : Stmt := topS 35
abbrev n__law_grown_term : List Str := ["_law_tape_here", "_law_deep", "_law_room", "_law_way", "_law_lots_here", "_law_many", "_law_outcomes", "_law_left_here", "_law_at", "_law_term", "_law_lot"]
abbrev s__law_is_number : Stmt := topS 36
abbrev n__law_is_number : List Str := ["_law_word_here", "_law_is_weight", "_law_pieces_here", "_law_piece", "_law_top", "_law_bottom", "_law_sign"]
abbrev s__law_word : Stmt := topS 37
abbrev n__law_word : List Str := ["_law_words_here", "_law_at"]
abbrev s__law_read : Stmt := topS 38
abbrev n__law_read : List Str := ["_law_words_here", "_law_at", "_law_room", "_law_owed", "_law_word_here", "_law_more"]
abbrev s__law_read_inner : Stmt := topS 39
abbrev n__law_read_inner : List Str := ["_law_words_here", "_law_at", "_law_room", "_law_owed", "_law_kind", "_law_count", "_law_least", "_law_must", "_law_found"]
abbrev s__law_bad_term : Stmt := topS 40
abbrev n__law_bad_term : List Str := ["_law_words_here", "_law_found"]
abbrev s__law_bad_mix : Stmt := topS 41
abbrev n__law_bad_mix : List Str := ["_law_words_here", "_law_at", "_law_word_here", "_law_room", "_law_count", "_law_found"]
abbrev s__law_bent : Stmt := topS 42
abbrev n__law_bent : List Str := ["_law_tape_here", "_law_words_here", "_law_at", "_law_way", "_law_odd"]
abbrev s__law_told : Stmt := topS 43
abbrev n__law_told : List Str := ["_law_call", "_law_found", "e"]
abbrev s_law : Stmt := topS 44
abbrev n_law : List Str := ["_law_script", "_law_start", "_law_tape_here", "_law_turn", "_law_term", "_law_words_here", "_law_text_here", "_law_due", "_law_told_here", "_law_mix", "_law_other", "_law_thing"]
abbrev s_Reader___init__ : Stmt := inClass (topS 16) 0
abbrev n_Reader___init__ : List Str := ["self", "text"]
abbrev s_Reader_peek : Stmt := inClass (topS 16) 1
abbrev n_Reader_peek : List Str := ["self"]
abbrev s_Reader_expect : Stmt := inClass (topS 16) 2
abbrev n_Reader_expect : List Str := ["self", "word"]
abbrev s_Reader_count_parts : Stmt := inClass (topS 16) 3
abbrev n_Reader_count_parts : List Str := ["self", "more"]
abbrev s_Reader_read_whole_term : Stmt := inClass (topS 16) 4
abbrev n_Reader_read_whole_term : List Str := ["self"]
abbrev s_Reader_read_term : Stmt := inClass (topS 16) 5
abbrev n_Reader_read_term : List Str := ["self", "word"]
abbrev s_Reader_read_step : Stmt := inClass (topS 16) 6
abbrev n_Reader_read_step : List Str := ["self", "pay", "outcomes", "weight"]
abbrev s_Reader_read_pay : Stmt := inClass (topS 16) 7
abbrev n_Reader_read_pay : List Str := ["self", "pay"]
abbrev s_Reader_read_weight : Stmt := inClass (topS 16) 8
abbrev n_Reader_read_weight : List Str := ["self", "weight"]
abbrev s_Reader_read_members : Stmt := inClass (topS 16) 9
abbrev n_Reader_read_members : List Str := ["self", "members"]
abbrev s_Reader_read_mix : Stmt := inClass (topS 16) 10
abbrev n_Reader_read_mix : List Str := ["self", "terms"]
abbrev s_Reader_finish : Stmt := inClass (topS 16) 11
abbrev n_Reader_finish : List Str := ["self"]
abbrev s_i_MixError : Stmt := inClass (topS 2) 0
theorem sc_i_MixError : FnScope ["self", "value"] ["self", "value"] (defScope s_i_MixError) := ⟨rfl, rfl, rfl, by decide +kernel, rfl, by decide +kernel, by decide +kernel⟩
abbrev s_i_BadText : Stmt := inClass (topS 3) 0
theorem sc_i_BadText : FnScope ["self", "value"] ["self", "value"] (defScope s_i_BadText) := ⟨rfl, rfl, rfl, by decide +kernel, rfl, by decide +kernel, by decide +kernel⟩
theorem sc_is_whole : FnScope ["value"] ["value"] (defScope s_is_whole) := ⟨rfl, rfl, rfl, by decide +kernel, rfl, by decide +kernel, by decide +kernel⟩
theorem sc_is_fraction : FnScope ["value", "top", "bottom"] ["value"] (defScope s_is_fraction) := ⟨rfl, rfl, rfl, by decide +kernel, rfl, by decide +kernel, by decide +kernel⟩
theorem sc_are_figures : FnScope ["word", "sign"] ["word"] (defScope s_are_figures) := ⟨rfl, rfl, rfl, by decide +kernel, rfl, by decide +kernel, by decide +kernel⟩
theorem sc_parse_fraction : FnScope ["word", "above", "slash", "below", "unsigned", "amount"] ["word"] (defScope s_parse_fraction) := ⟨rfl, rfl, rfl, by decide +kernel, rfl, by decide +kernel, by decide +kernel⟩
theorem sc_parse_term : FnScope ["text", "reader", "term"] ["text"] (defScope s_parse_term) := ⟨rfl, rfl, rfl, by decide +kernel, rfl, by decide +kernel, by decide +kernel⟩
theorem sc_parse_mix : FnScope ["text", "reader", "mix"] ["text"] (defScope s_parse_mix) := ⟨rfl, rfl, rfl, by decide +kernel, rfl, by decide +kernel, by decide +kernel⟩
theorem sc__law_tape : FnScope ["_law_script", "_law_first", "_law_mixed", "_law_cell", "_law_digits"] ["_law_script", "_law_first"] (defScope s__law_tape) := ⟨rfl, rfl, rfl, by decide +kernel, rfl, by decide +kernel, by decide +kernel⟩
theorem sc__law_pick : FnScope ["_law_tape_here", "_law_many", "_law_found", "_law_once"] ["_law_tape_here", "_law_many"] (defScope s__law_pick) := ⟨rfl, rfl, rfl, by decide +kernel, rfl, by decide +kernel, by decide +kernel⟩
theorem sc__law_one_of : FnScope ["_law_tape_here", "_law_things"] ["_law_tape_here", "_law_things"] (defScope s__law_one_of) := ⟨rfl, rfl, rfl, by decide +kernel, rfl, by decide +kernel, by decide +kernel⟩
theorem sc__law_frac : FnScope ["_law_top", "_law_bottom", "_law_one", "_law_other"] ["_law_top", "_law_bottom"] (defScope s__law_frac) := ⟨rfl, rfl, rfl, by decide +kernel, rfl, by decide +kernel, by decide +kernel⟩
theorem sc__law_drawn_pay : FnScope ["_law_tape_here", "_law_far"] ["_law_tape_here"] (defScope s__law_drawn_pay) := ⟨rfl, rfl, rfl, by decide +kernel, rfl, by decide +kernel, by decide +kernel⟩
theorem sc__law_drawn_weight : FnScope ["_law_tape_here"] ["_law_tape_here"] (defScope s__law_drawn_weight) := ⟨rfl, rfl, rfl, by decide +kernel, rfl, by decide +kernel, by decide +kernel⟩
theorem sc__law_drawn_term : FnScope ["_law_tape_here", "_law_deep", "_law_room", "_law_found"] ["_law_tape_here", "_law_deep", "_law_room"] (defScope s__law_drawn_term) := ⟨rfl, rfl, rfl, by decide +kernel, rfl, by decide +kernel, by decide +kernel⟩
theorem sc__law_within : FnScope ["_law_term", "_law_one"] ["_law_term"] (defScope s__law_within) := ⟨rfl, rfl, rfl, by decide +kernel, rfl, by decide +kernel, by decide +kernel⟩
theorem sc__law_counts : FnScope ["_law_term", "_law_counts_here", "_law_one"] ["_law_term"] (defScope s__law_counts) := ⟨rfl, rfl, rfl, by decide +kernel, rfl, by decide +kernel, by decide +kernel⟩
theorem sc__law_drawn_mix : FnScope ["_law_tape_here", "_law_most", "_law_room", "_law_look"] ["_law_tape_here", "_law_most", "_law_room"] (defScope s__law_drawn_mix) := ⟨rfl, rfl, rfl, by decide +kernel, rfl, by decide +kernel, by decide +kernel⟩
theorem sc__law_long : FnScope ["_law_many", "_law_found", "_law_at"] ["_law_many"] (defScope s__law_long) := ⟨rfl, rfl, rfl, by decide +kernel, rfl, by decide +kernel, by decide +kernel⟩
theorem sc__law_wide : FnScope ["_law_many", "_law_found", "_law_at"] ["_law_many"] (defScope s__law_wide) := ⟨rfl, rfl, rfl, by decide +kernel, rfl, by decide +kernel, by decide +kernel⟩
theorem sc__law_number : FnScope ["_law_value"] ["_law_value"] (defScope s__law_number) := ⟨rfl, rfl, rfl, by decide +kernel, rfl, by decide +kernel, by decide +kernel⟩
theorem sc__law_words : FnScope ["_law_term", "_law_found", "_law_one", "_law_weight"] ["_law_term"] (defScope s__law_words) := ⟨rfl, rfl, rfl, by decide +kernel, rfl, by decide +kernel, by decide +kernel⟩
theorem sc__law_mix_words : FnScope ["_law_mix", "_law_found", "_law_term"] ["_law_mix"] (defScope s__law_mix_words) := ⟨rfl, rfl, rfl, by decide +kernel, rfl, by decide +kernel, by decide +kernel⟩
theorem sc__law_grown_term : FnScope ["_law_tape_here", "_law_deep", "_law_room", "_law_way", "_law_lots_here", "_law_many", "_law_outcomes", "_law_left_here", "_law_at", "_law_term", "_law_lot"] ["_law_tape_here", "_law_deep", "_law_room"] (defScope s__law_grown_term) := ⟨rfl, rfl, rfl, by decide +kernel, rfl, by decide +kernel, by decide +kernel⟩
theorem sc__law_is_number : FnScope ["_law_word_here", "_law_is_weight", "_law_pieces_here", "_law_piece", "_law_top", "_law_bottom", "_law_sign"] ["_law_word_here", "_law_is_weight"] (defScope s__law_is_number) := ⟨rfl, rfl, rfl, by decide +kernel, rfl, by decide +kernel, by decide +kernel⟩
theorem sc__law_word : FnScope ["_law_words_here", "_law_at"] ["_law_words_here", "_law_at"] (defScope s__law_word) := ⟨rfl, rfl, rfl, by decide +kernel, rfl, by decide +kernel, by decide +kernel⟩
theorem sc__law_read : FnScope ["_law_words_here", "_law_at", "_law_room", "_law_owed", "_law_word_here", "_law_more"] ["_law_words_here", "_law_at", "_law_room", "_law_owed"] (defScope s__law_read) := ⟨rfl, rfl, rfl, by decide +kernel, rfl, by decide +kernel, by decide +kernel⟩
theorem sc__law_read_inner : FnScope ["_law_words_here", "_law_at", "_law_room", "_law_owed", "_law_kind", "_law_count", "_law_least", "_law_must", "_law_found"] ["_law_words_here", "_law_at", "_law_room", "_law_owed", "_law_kind"] (defScope s__law_read_inner) := ⟨rfl, rfl, rfl, by decide +kernel, rfl, by decide +kernel, by decide +kernel⟩
theorem sc__law_bad_term : FnScope ["_law_words_here", "_law_found"] ["_law_words_here"] (defScope s__law_bad_term) := ⟨rfl, rfl, rfl, by decide +kernel, rfl, by decide +kernel, by decide +kernel⟩
theorem sc__law_bad_mix : FnScope ["_law_words_here", "_law_at", "_law_word_here", "_law_room", "_law_count", "_law_found"] ["_law_words_here"] (defScope s__law_bad_mix) := ⟨rfl, rfl, rfl, by decide +kernel, rfl, by decide +kernel, by decide +kernel⟩
theorem sc__law_bent : FnScope ["_law_tape_here", "_law_words_here", "_law_at", "_law_way", "_law_odd"] ["_law_tape_here", "_law_words_here"] (defScope s__law_bent) := ⟨rfl, rfl, rfl, by decide +kernel, rfl, by decide +kernel, by decide +kernel⟩
theorem sc__law_told : FnScope ["_law_call", "_law_found", "e"] ["_law_call"] (defScope s__law_told) := ⟨rfl, rfl, rfl, by decide +kernel, rfl, by decide +kernel, by decide +kernel⟩
theorem sc_law : FnScope ["_law_script", "_law_start", "_law_tape_here", "_law_turn", "_law_term", "_law_words_here", "_law_text_here", "_law_due", "_law_told_here", "_law_mix", "_law_other", "_law_thing"] ["_law_script"] (defScope s_law) := ⟨rfl, rfl, rfl, by decide +kernel, rfl, by decide +kernel, by decide +kernel⟩
theorem sc_Reader___init__ : FnScope ["self", "text"] ["self", "text"] (defScope s_Reader___init__) := ⟨rfl, rfl, rfl, by decide +kernel, rfl, by decide +kernel, by decide +kernel⟩
theorem sc_Reader_peek : FnScope ["self"] ["self"] (defScope s_Reader_peek) := ⟨rfl, rfl, rfl, by decide +kernel, rfl, by decide +kernel, by decide +kernel⟩
theorem sc_Reader_expect : FnScope ["self", "word"] ["self", "word"] (defScope s_Reader_expect) := ⟨rfl, rfl, rfl, by decide +kernel, rfl, by decide +kernel, by decide +kernel⟩
theorem sc_Reader_count_parts : FnScope ["self", "more"] ["self", "more"] (defScope s_Reader_count_parts) := ⟨rfl, rfl, rfl, by decide +kernel, rfl, by decide +kernel, by decide +kernel⟩
theorem sc_Reader_read_whole_term : FnScope ["self"] ["self"] (defScope s_Reader_read_whole_term) := ⟨rfl, rfl, rfl, by decide +kernel, rfl, by decide +kernel, by decide +kernel⟩
theorem sc_Reader_read_term : FnScope ["self", "word"] ["self"] (defScope s_Reader_read_term) := ⟨rfl, rfl, rfl, by decide +kernel, rfl, by decide +kernel, by decide +kernel⟩
theorem sc_Reader_read_step : FnScope ["self", "pay", "outcomes", "weight"] ["self"] (defScope s_Reader_read_step) := ⟨rfl, rfl, rfl, by decide +kernel, rfl, by decide +kernel, by decide +kernel⟩
theorem sc_Reader_read_pay : FnScope ["self", "pay"] ["self"] (defScope s_Reader_read_pay) := ⟨rfl, rfl, rfl, by decide +kernel, rfl, by decide +kernel, by decide +kernel⟩
theorem sc_Reader_read_weight : FnScope ["self", "weight"] ["self"] (defScope s_Reader_read_weight) := ⟨rfl, rfl, rfl, by decide +kernel, rfl, by decide +kernel, by decide +kernel⟩
theorem sc_Reader_read_members : FnScope ["self", "members"] ["self"] (defScope s_Reader_read_members) := ⟨rfl, rfl, rfl, by decide +kernel, rfl, by decide +kernel, by decide +kernel⟩
theorem sc_Reader_read_mix : FnScope ["self", "terms"] ["self"] (defScope s_Reader_read_mix) := ⟨rfl, rfl, rfl, by decide +kernel, rfl, by decide +kernel, by decide +kernel⟩
theorem sc_Reader_finish : FnScope ["self"] ["self"] (defScope s_Reader_finish) := ⟨rfl, rfl, rfl, by decide +kernel, rfl, by decide +kernel, by decide +kernel⟩
/-- what the top has written -/
structure Txt (K : PySem.W.Frag) (mg : Str → Option Value) where
  K_Reader : CT K mg "Reader"
  d_is_whole : FT K mg "is_whole" s_is_whole ["value"]
  d_is_fraction : FT K mg "is_fraction" s_is_fraction ["value"]
  d_are_figures : FT K mg "are_figures" s_are_figures ["word"]
  d_parse_fraction : FT K mg "parse_fraction" s_parse_fraction ["word"]
  d_parse_term : FT K mg "parse_term" s_parse_term ["text"]
  d_parse_mix : FT K mg "parse_mix" s_parse_mix ["text"]
  d__law_tape : FT K mg "_law_tape" s__law_tape ["_law_script", "_law_first"]
  d__law_pick : FT K mg "_law_pick" s__law_pick ["_law_tape_here", "_law_many"]
  d__law_one_of : FT K mg "_law_one_of" s__law_one_of ["_law_tape_here", "_law_things"]
  d__law_frac : FT K mg "_law_frac" s__law_frac ["_law_top", "_law_bottom"]
  d__law_drawn_pay : FT K mg "_law_drawn_pay" s__law_drawn_pay ["_law_tape_here"]
  d__law_drawn_weight : FT K mg "_law_drawn_weight" s__law_drawn_weight ["_law_tape_here"]
  d__law_drawn_term : FT K mg "_law_drawn_term" s__law_drawn_term ["_law_tape_here", "_law_deep", "_law_room"]
  d__law_within : FT K mg "_law_within" s__law_within ["_law_term"]
  d__law_counts : FT K mg "_law_counts" s__law_counts ["_law_term"]
  d__law_drawn_mix : FT K mg "_law_drawn_mix" s__law_drawn_mix ["_law_tape_here", "_law_most", "_law_room"]
  d__law_long : FT K mg "_law_long" s__law_long ["_law_many"]
  d__law_wide : FT K mg "_law_wide" s__law_wide ["_law_many"]
  d__law_number : FT K mg "_law_number" s__law_number ["_law_value"]
  d__law_words : FT K mg "_law_words" s__law_words ["_law_term"]
  d__law_mix_words : FT K mg "_law_mix_words" s__law_mix_words ["_law_mix"]
  d__law_grown_term : FT K mg "_law_grown_term" s__law_grown_term ["_law_tape_here", "_law_deep", "_law_room"]
  d__law_is_number : FT K mg "_law_is_number" s__law_is_number ["_law_word_here", "_law_is_weight"]
  d__law_word : FT K mg "_law_word" s__law_word ["_law_words_here", "_law_at"]
  d__law_read : FT K mg "_law_read" s__law_read ["_law_words_here", "_law_at", "_law_room", "_law_owed"]
  d__law_read_inner : FT K mg "_law_read_inner" s__law_read_inner ["_law_words_here", "_law_at", "_law_room", "_law_owed", "_law_kind"]
  d__law_bad_term : FT K mg "_law_bad_term" s__law_bad_term ["_law_words_here"]
  d__law_bad_mix : FT K mg "_law_bad_mix" s__law_bad_mix ["_law_words_here"]
  d__law_bent : FT K mg "_law_bent" s__law_bent ["_law_tape_here", "_law_words_here"]
  d__law_told : FT K mg "_law_told" s__law_told ["_law_call"]
  d_law : FT K mg "law" s_law ["_law_script"]
  d_Reader___init__ : MT K K_Reader.C "__init__" "Reader.__init__" s_Reader___init__ ["self", "text"]
  d_Reader_peek : MT K K_Reader.C "peek" "Reader.peek" s_Reader_peek ["self"]
  d_Reader_expect : MT K K_Reader.C "expect" "Reader.expect" s_Reader_expect ["self", "word"]
  d_Reader_count_parts : MT K K_Reader.C "count_parts" "Reader.count_parts" s_Reader_count_parts ["self", "more"]
  d_Reader_read_whole_term : MT K K_Reader.C "read_whole_term" "Reader.read_whole_term" s_Reader_read_whole_term ["self"]
  d_Reader_read_term : MT K K_Reader.C "read_term" "Reader.read_term" s_Reader_read_term ["self"]
  d_Reader_read_step : MT K K_Reader.C "read_step" "Reader.read_step" s_Reader_read_step ["self"]
  d_Reader_read_pay : MT K K_Reader.C "read_pay" "Reader.read_pay" s_Reader_read_pay ["self"]
  d_Reader_read_weight : MT K K_Reader.C "read_weight" "Reader.read_weight" s_Reader_read_weight ["self"]
  d_Reader_read_members : MT K K_Reader.C "read_members" "Reader.read_members" s_Reader_read_members ["self"]
  d_Reader_read_mix : MT K K_Reader.C "read_mix" "Reader.read_mix" s_Reader_read_mix ["self"]
  d_Reader_finish : MT K K_Reader.C "finish" "Reader.finish" s_Reader_finish ["self"]
  n_abs : mg "abs" = none
  n_all : mg "all" = none
  n_bool : mg "bool" = none
  n_enumerate : mg "enumerate" = none
  n_int : mg "int" = none
  n_isinstance : mg "isinstance" = none
  n_len : mg "len" = none
  n_list : mg "list" = none
  n_max : mg "max" = none
  n_min : mg "min" = none
  n_range : mg "range" = none
  n_str : mg "str" = none
  n_sum : mg "sum" = none
  n_tuple : mg "tuple" = none
  n_gcd : mg "gcd" = some (.builtin "math.gcd")
  a_END : Addr
  c_END : mg "END" = some (.ref a_END)
  k_END : ∃ (o : Obj) (its : Array Value) (n : Nat), K.lookup a_END = some o ∧ o.cls = .type "tuple" ∧ o.data = .seq its n ∧ its.size ≤ sizeLine ∧ Vals [.str "end"] its.toList
  t_MOST_STEPS : Tok
  c_MOST_STEPS : mg "MOST_STEPS" = some (.int 16 t_MOST_STEPS)
  t_MOST_PARTS : Tok
  c_MOST_PARTS : mg "MOST_PARTS" = some (.int 48 t_MOST_PARTS)
  c_are_figures : Addr
  P_are_figures : Addr
  h_are_figures : d_are_figures.fd.code = .ref c_are_figures
  c_law : Addr
  P_law : Addr
  h_law : d_law.fd.code = .ref c_law
  ne_tabs : P_law ≠ P_are_figures
  t_MOST_TERMS : Tok
  c_MOST_TERMS : mg "MOST_TERMS" = some (.int 4 t_MOST_TERMS)
  t_MOST_MIX_PARTS : Tok
  c_MOST_MIX_PARTS : mg "MOST_MIX_PARTS" = some (.int 96 t_MOST_MIX_PARTS)
  t_MOST_FIGURES : Tok
  c_MOST_FIGURES : mg "MOST_FIGURES" = some (.int 12 t_MOST_FIGURES)
  f_words : NoAttr K K_Reader.C "words"
  f_at : NoAttr K K_Reader.C "at"
  f_step_count : NoAttr K K_Reader.C "step_count"
  f_term_parts : NoAttr K K_Reader.C "term_parts"
  f_all_parts : NoAttr K K_Reader.C "all_parts"
  n_ValueError : mg "ValueError" = none
  v_VE : PySem.W.findCls K (.type "ValueError") (.type "type") "__init__" = some (.val (.builtin "ValueError.__init__"))
  M : BaseK K mg "MixError" "MixError.__init__" s_i_MixError
  E_BadText : ErrK K mg "BadText" "BadText.__init__" M.C s_i_BadText
/-! ### the law's own tape -/
/-- all but what stands at p is as it was -/
def ExB (p : Addr) (H H' : Hp) : Prop := ∀ b o, b ≠ p → H b = some o → H' b = some o
theorem ExB.refl (p : Addr) (H : Hp) : ExB p H H := fun _ _ _ h => h
theorem ExB.trans {p : Addr} {H H1 H2 : Hp} (a : ExB p H H1) (b : ExB p H1 H2) : ExB p H H2 := fun c o n h => b c o n (a c o n h)
theorem Ex.b {p : Addr} {H H1 : Hp} (a : Ex H H1) : ExB p H H1 := fun c o _ h => a c o h
theorem ExB.upd {p : Addr} {H H1 : Hp} {o : HO} (a : ExB p H H1) : ExB p H (upd H1 p o) := fun c o n h => by
  rw [upd_ne n]
  exact a c o n h
/-- a tuple stays where a list changes -/
theorem tup_lst {K : PySem.W.Frag} {H H' : Hp} {p c : Addr} {xs ys : List V} (hp : H p = some (.lst xs)) (e : ExB p H H') (h : SqT K H c ys) : SqT K H' c ys := by
  rcases h with (h | ⟨o, h⟩) | h
  · exact .inl (.inl (e c _ (by rintro rfl; rw [hp] at h; cases h) h))
  · exact .inl (.inr ⟨o, e c _ (by rintro rfl; rw [hp] at h; cases h) h⟩)
  · exact .inr h
theorem Fr.lst {K : PySem.W.Frag} {H H' : Hp} {p : Addr} {xs : List V} {b : Nat} {q : Rat} {z : V} (hp : H p = some (.lst xs)) (e : ExB p H H') (h : Fr K b q z H) : Fr K b q z H' := by
  obtain ⟨c, rfl, h, x⟩ := h
  exact ⟨c, rfl, tup_lst hp e h, x⟩
/-- a way through a block, joined behind its first statement -/
theorem s_join {t u : TS} {D : Ends} {σ : L2.St} {H : Hp} (R : L2.St → Hp → Prop) (h1 : ∀ N : L2.St → Hp → Prop, (∀ σ H, R σ H → N σ H) → t { D with nx := N } σ H) (h2 : ∀ σ H, R σ H → u D σ H) : tSeq t u D σ H := h1 (u D) h2
theorem n_seq {t u : TS} {D : Ends} {σ : L2.St} {H : Hp} (h : t { D with nx := u D } σ H) : tSeq t u D σ H := h
theorem n_c {i : Nat} {v : V} {D : Ends} {σ : L2.St} {H : Hp} (h : D.nx (σ.set i (some v)) H) : tAsg (tC v) (gName i) D σ H := h
theorem b64 {i : Int} (h0 : 0 ≤ i) (h : i < 18446744073709551616) : i.natAbs < 2 ^ 64 := by
  show i.natAbs < 18446744073709551616
  omega
theorem atI_at {xs : List V} {i : Int} (h0 : 0 ≤ i) (h : i < xs.length) : ∃ x, atI xs i = some x ∧ x ∈ xs ∧ xs[i.toNat]? = some x := by
  have hk : i.toNat < xs.length := by omega
  have e := List.getElem?_eq_getElem hk
  refine ⟨xs[i.toNat], ?_, List.getElem_mem hk, e⟩
  have := atI_nat e
  rwa [show ((i.toNat : Nat) : Int) = i by omega] at this
theorem n_name {i : Nat} {v : V} {σ : L2.St} {H : Hp} {N : L2.St → Hp → Prop} (h : N (σ.set i (some v)) H) : gName i v σ H N := h
theorem n_next {D : Ends} {σ : L2.St} {H : Hp} (h : D.nx σ H) : tNext D σ H := h
theorem none_ex {H H' : Hp} {a : Addr} (e : Ex H H') (h : H' a = none) : H a = none := by
  cases hh : H a with
  | none => rfl
  | some o => rw [e _ _ hh] at h; cases h
/-- the tape at p: its digits, its mixed number -/
def Tape (H : Hp) (p : Addr) : Prop := ∃ d m : Int, H p = some (.dK [(.inr "digits", .int d), (.inr "mixed", .int m)]) ∧ 0 ≤ d ∧ 0 ≤ m ∧ m ≤ 2147483565
theorem Tape.ex {H H' : Hp} {p : Addr} (e : Ex H H') (h : Tape H p) : Tape H' p := by
  obtain ⟨d, m, h1, r⟩ := h
  exact ⟨d, m, e _ _ h1, r⟩
theorem tp_get1 {d m : Int} : valV [((.inr "digits" : Key), V.int d), (.inr "mixed", .int m)] (.inr "digits") = some (.int d) := valV_pos rfl
theorem dig_mix : ¬ (Sum.inr ("digits" : Str) : Key) = Sum.inr ("mixed" : Str) := fun h => absurd (Sum.inr.inj h) (by decide +kernel)
theorem mix_dig : ¬ (Sum.inr ("mixed" : Str) : Key) = Sum.inr ("digits" : Str) := fun h => absurd (Sum.inr.inj h) (by decide +kernel)
theorem tp_get2 {d m : Int} : valV [((.inr "digits" : Key), V.int d), (.inr "mixed", .int m)] (.inr "mixed") = some (.int m) := by
  rw [valV_neg dig_mix]
  exact valV_pos rfl
theorem tp_put1 {d m x : Int} : putK [((.inr "digits" : Key), V.int d), (.inr "mixed", .int m)] (.inr "digits") (.int x) = [(.inr "digits", .int x), (.inr "mixed", .int m)] := by
  unfold putK
  rw [valV_any, tp_get1, if_pos (show (some (V.int d)).isSome = true from rfl), List.map_cons, List.map_cons, List.map_nil, if_pos rfl, if_neg mix_dig]
theorem tp_put2 {d m x : Int} : putK [((.inr "digits" : Key), V.int d), (.inr "mixed", .int m)] (.inr "mixed") (.int x) = [(.inr "digits", .int d), (.inr "mixed", .int x)] := by
  unfold putK
  rw [valV_any, tp_get2, if_pos (show (some (V.int m)).isSome = true from rfl), List.map_cons, List.map_cons, List.map_nil, if_neg dig_mix, if_pos rfl]
section
variable {K : PySem.W.Frag} {σ : L2.St} {G : Hp} {p : Addr} {d x : Int} {i : Nat} {te : TE}
theorem ev_dig (h : σ[i]? = some (some (.ref p))) (hp : G p = some (.dK [(.inr "digits", .int d), (.inr "mixed", .int x)])) : Ev (tDGet (tVar i) (tC (.str "digits"))) σ G (.int d) := fun H1 e Q k => by
  have g := DGet.k (k := .inr ("digits" : Str)) (e _ _ hp)
  rw [tp_get1] at g
  exact ⟨_, h, p, _, rfl, g, k H1 (Ex.refl _)⟩
theorem ev_mix (h : σ[i]? = some (some (.ref p))) (hp : G p = some (.dK [(.inr "digits", .int d), (.inr "mixed", .int x)])) : Ev (tDGet (tVar i) (tC (.str "mixed"))) σ G (.int x) := fun H1 e Q k => by
  have g := DGet.k (k := .inr ("mixed" : Str)) (e _ _ hp)
  rw [tp_get2] at g
  exact ⟨_, h, p, _, rfl, g, k H1 (Ex.refl _)⟩
theorem ev_intI {n : Int} (h : Ev te σ G (.int n)) : Ev (tCB (fun xs H Q => (∃ i, xs = [V.int i] ∧ Q (V.int i) H) ∨ ∃ k, xs = [V.bl k] ∧ Q (V.int (if k = true then 1 else 0)) H) (tCons te tNil)) σ G (.int n) := fun H1 e Q k => h H1 e _ fun H2 e2 => .inl ⟨n, rfl, k H2 e2⟩
end
section
variable {P : Program} {w : World} {K : PySem.W.Frag} {mg : Str → Option Value} {base : Heap}
def spPick (K : PySem.W.Frag) : Sp := fun vs H Q _ => ∃ (p : Addr) (m : Int), vs = [.ref p, .int m] ∧ Tape H p ∧ 0 < m ∧ m ≤ 100000000000 ∧ ∀ (r : Int) (H' : Hp), 0 ≤ r → r < m → ExB p H H' → Tape H' p → Q (.int r) H'
theorem ok__law_pick (T : Txt K mg) : FnOk P w K mg base CX0 1 T.d__law_pick.a T.d__law_pick.fd ["_law_tape_here", "_law_many"] (spPick K) := by
  refine T.d__law_pick.F.ok sc__law_pick (fun vs H Q E h => ?_) (fun cdv A outer s H vs Q E hr h => ?_)
  · obtain ⟨p, m, rfl, _⟩ := h
    rfl
  · obtain ⟨p, m, rfl, ⟨d, x, hp, d0, x0, x1⟩, m0, m1, k⟩ := h
    have hu1 := hu_of hr
    refine ⟨_, (pss_cons (ps_if (pt_cmpR op_ge (pe_dget hu1 (pv 0) pe_str (fun _ _ => rfl)) (pv 1) (nomark _)) (pss_cons (ps_set (i := 2) sc__law_pick.nd rfl (Or.inl rfl) (pe_op op_mod (pe_callTy call_int1 (by rfl) T.n_int (by decide +kernel) (pa_cons (pe_dget hu1 (pv 0) pe_str (fun _ _ => rfl)) pa_nil)) (pv 1)))
      (pss_cons (ps_asg (pe_op op_fdivZ (pe_dget hu1 (pv 0) pe_str (fun _ _ => rfl)) (pv 1)) (pg_sub (pv 0) pe_str (set_dict hu1)))
      (pss_one (ps_ret (pv 2))))) pss_nil)
      (pss_cons (ps_asg (pe_op op_mod (pe_callTy call_int1 (by rfl) T.n_int (by decide +kernel) (pa_cons (pe_op op_add (pe_op op_mulW (pe_dget hu1 (pv 0) pe_str (fun _ _ => rfl)) pe_int) pe_int) pa_nil)) pe_int) (pg_sub (pv 0) pe_str (set_dict hu1)))
      (pss_cons (ps_set (i := 3) sc__law_pick.nd rfl (Or.inl rfl) (pe_op op_mod (pe_callTy call_int1 (by rfl) T.n_int (by decide +kernel) (pa_cons (pe_op op_pow (pe_dget hu1 (pv 0) pe_str (fun _ _ => rfl)) pe_int) pa_nil)) pe_int))
      (pss_one (ps_ret (pe_op op_mod (pe_callTy call_int1 (by rfl) T.n_int (by decide +kernel) (pa_cons (pe_op op_fdivZ (pe_op op_mod (pe_callTy call_int1 (by rfl) T.n_int (by decide +kernel) (pa_cons (pe_op op_pow (pv 3) pe_int) pa_nil)) pe_int) pe_int) pa_nil)) (pv 1))))))), ?_⟩
    refine n_seq ?_
    refine s_if (b := decide (m ≤ d)) (et_test (ev_op (ev_dig rfl hp) (ev_var rfl) rv_I0)) (fun hc H1 e1 => ?_) (fun hc H1 e1 => ?_)
    · have hp1 := e1 _ _ hp
      refine n_seq ?_
      refine s_asg (v := .int (d % m)) (ev_op (ev_intI (ev_dig rfl hp1)) (ev_var rfl) (rv_I m0)) fun H2 e2 => ?_
      dsimp only
      have hp2 := e2 _ _ hp1
      have hz : CDivZ d m := ⟨by omega, log_lt (b := 40) (by
        have : (2 : Nat) ^ 40 = 1099511627776 := by decide
        omega) (by decide) (by decide)⟩
      refine n_seq ?_
      refine (ev_op (ev_dig rfl hp2) (ev_var rfl) (rv_I hz)) H2 (Ex.refl _) _ fun H3 e3 => ?_
      have hp3 := e3 _ _ hp2
      refine ⟨_, rfl, p, _, rfl, DPut.k (k := .inr ("digits" : Str)) hp3 (by show 2 < sizeLine; decide), ?_⟩
      rw [tp_put1]
      have f0 : 0 ≤ d.fdiv m := by
        rw [Int.fdiv_eq_ediv_of_nonneg d (by omega)]
        exact Int.ediv_nonneg d0 (by omega)
      exact ⟨_, rfl, k (d % m) _ (Int.emod_nonneg _ (by omega)) (Int.emod_lt_of_pos _ m0) ((Ex.b ((e1.trans e2).trans e3)).upd) ⟨_, _, upd_same, f0, x0, x1⟩⟩
    · refine n_next ?_
      have hp1 := e1 _ _ hp
      have q0 : (0 : Int) < 2147483563 := by decide
      refine n_seq ?_
      refine (ev_op (ev_intI (ev_add (ev_mulW (ev_mix rfl hp1) ev_c (mulW (a := 64) (b := 64) (b64 x0 (by omega)) (b64 (by decide) (by decide)) (by decide))) ev_c)) ev_c (rv_I q0)) H1 (Ex.refl _) _ fun H2 e2 => ?_
      have hp2 := e2 _ _ hp1
      refine ⟨_, rfl, p, _, rfl, DPut.k (k := .inr ("mixed" : Str)) hp2 (by show 2 < sizeLine; decide), ?_⟩
      rw [tp_put2]
      have a0 : 0 ≤ (x * 40014 + 1031) % 2147483563 := Int.emod_nonneg _ (by decide)
      have a1 : (x * 40014 + 1031) % 2147483563 < 2147483563 := Int.emod_lt_of_pos _ (by decide)
      generalize (x * 40014 + 1031) % 2147483563 = y at a0 a1
      have up : ExB p H (upd H2 p (.dK [(.inr "digits", .int d), (.inr "mixed", .int y)])) := (Ex.b (e1.trans e2)).upd
      have hpU : (upd H2 p (.dK [(.inr "digits", .int d), (.inr "mixed", .int y)])) p = some (.dK [(.inr "digits", .int d), (.inr "mixed", .int y)]) := upd_same
      generalize upd H2 p (.dK [(.inr "digits", .int d), (.inr "mixed", .int y)]) = HU at up hpU
      dsimp only
      refine n_seq ?_
      refine s_asg (v := .int (y ^ (2 : Int).toNat % 2147483399)) (ev_op (ev_intI (ev_op (ev_mix rfl hpU) ev_c (rv_I ⟨by decide, by decide, b64 a0 (by omega)⟩))) ev_c (rv_I (by decide : (0 : Int) < 2147483399))) fun H3 e3 => ?_
      dsimp only
      have b0 : 0 ≤ y ^ (2 : Int).toNat % 2147483399 := Int.emod_nonneg _ (by decide)
      have b1 : y ^ (2 : Int).toNat % 2147483399 < 2147483399 := Int.emod_lt_of_pos _ (by decide)
      generalize y ^ (2 : Int).toNat % 2147483399 = z at b0 b1
      have hz : CDivZ (z ^ (3 : Int).toNat % 998244353) 13 := ⟨by decide, by decide⟩
      refine s_ret (v := .int ((z ^ (3 : Int).toNat % 998244353).fdiv 13 % m)) (ev_op (ev_intI (ev_op (ev_op (ev_intI (ev_op (ev_var rfl) ev_c (rv_I ⟨by decide, by decide, b64 b0 (by omega)⟩))) ev_c (rv_I (by decide : (0 : Int) < 998244353))) ev_c (rv_I hz))) (ev_var rfl) (rv_I m0)) fun H4 e4 => ?_
      exact k _ H4 (Int.emod_nonneg _ (by omega)) (Int.emod_lt_of_pos _ m0) (up.trans (Ex.b (e3.trans e4))) ⟨d, y, (e3.trans e4) _ _ hpU, d0, a0, by omega⟩
def spOneOf (K : PySem.W.Frag) : Sp := fun vs H Q _ => ∃ (p l : Addr) (xs : List V), vs = [.ref p, .ref l] ∧ Tape H p ∧ H l = some (.lst xs) ∧ l ≠ p ∧ 0 < xs.length ∧ xs.length ≤ 1000 ∧ ∀ (i : Nat) (x : V) (H' : Hp), xs[i]? = some x → ExB p H H' → Tape H' p → Q x H'
theorem ok__law_one_of (T : Txt K mg) : FnOk P w K mg base CX0 2 T.d__law_one_of.a T.d__law_one_of.fd ["_law_tape_here", "_law_things"] (spOneOf K) := by
  refine T.d__law_one_of.F.ok sc__law_one_of (fun vs H Q E h => ?_) (fun cdv A outer s H vs Q E hr h => ?_)
  · obtain ⟨p, l, xs, rfl, _⟩ := h
    rfl
  · obtain ⟨p, l, xs, rfl, ht, hl, nlp, l0, l1, k⟩ := h
    refine ⟨_, (pss_one (ps_ret (pe_ix ix_list (pv 1) (pe_call (ok__law_pick T) (hr.mono (by decide)) (by rfl) T.d__law_pick.g T.d__law_pick.F.kp T.d__law_pick.b .nil pass0 (pa_cons (pv 0) (pa_cons (pe_callB call_len_seq (by rfl) T.n_len (by decide +kernel) (pa_cons (pv 1) pa_nil)) pa_nil))) (fun _ _ => rfl)))), ?_⟩
    refine ⟨_, rfl, _, rfl, _, rfl, l, xs, rfl, .inl (SqL.of hl), p, _, rfl, ht, by omega, by omega, fun r H1 r0 r1 eb ht1 => ?_⟩
    obtain ⟨j, rfl⟩ : ∃ j : Nat, r = j := ⟨r.toNat, by omega⟩
    have jl : j < xs.length := by omega
    exact ⟨l, xs, j, _, rfl, rfl, SqL.of (eb _ _ nlp hl), atI_nat (List.getElem?_eq_getElem jl), k j _ H1 (List.getElem?_eq_getElem jl) eb ht1⟩
end
/-! ### the tape is made -/
theorem tp_merge {d m : Int} : mergeK [] [((.inr ("digits" : Str) : Key), V.int d), (.inr ("mixed" : Str), .int m)] = [(.inr "digits", .int d), (.inr "mixed", .int m)] := by
  show putK (putK ([] : List (Key × V)) (Sum.inr ("digits" : Str)) (V.int d)) (Sum.inr ("mixed" : Str)) (V.int m) = _
  rw [putK_new (kvs := ([] : List (Key × V))) (V.int d) rfl, putK_new]
  · rfl
  · show valV [((.inr ("digits" : Str) : Key), V.int d)] (.inr ("mixed" : Str)) = none
    rw [valV_neg dig_mix]
    rfl
theorem sq_bitsB {b : Nat} {m n : Int} (b64 : 64 ≤ b) (h3 : (m * 30029).natAbs < 2 ^ (b + b)) (hn : n.natAbs < 2 ^ b) : Builtin.Int.intBits (m * 30029 + n * n + 13) ≤ b + b + 1 + 1 := by
  have h2 := bn_mul hn hn
  have h5 : (13 : Int).natAbs < 2 ^ (b + b + 1) := lt_pow_mono (by omega : 64 ≤ b + b + 1) (by decide)
  exact bits_le (bn_add (bn_add h3 h2) h5)
theorem sq_bits {m n : Int} (m0 : 0 ≤ m) (m1 : m ≤ 2147483565) (h : Builtin.Int.intBits n ≤ 1048576) : CMulX n n ∧ CPowX (m * 30029 + n * n + 13) 2 := by
  have key : ∀ b : Nat, 64 ≤ b → b ≤ 1048576 → Builtin.Int.intBits n ≤ b → CMulX n n ∧ CPowX (m * 30029 + n * n + 13) 2 := fun b h1 h2 h => by
    have hn := bits_lt h
    have h3 : (m * 30029).natAbs < 2 ^ 64 := by
      have e : (2 : Nat) ^ 64 = 18446744073709551616 := by decide
      omega
    have h6 := sq_bitsB (m := m) h1 (lt_pow_mono (by omega : 64 ≤ b + b) h3) hn
    refine ⟨mulx_ok hn hn (by omega), by decide, ?_⟩
    have e : (2 : Int) ^ 27 = 134217728 := by decide
    rw [e]
    omega
  exact key 1048576 (by decide) (Nat.le_refl _) h
section
variable {P : Program} {w : World} {K : PySem.W.Frag} {mg : Str → Option Value} {base : Heap}
def spTape (K : PySem.W.Frag) : Sp := fun vs H Q _ => ∃ (a : Addr) (ns : List Int) (f : Nat), vs = [.ref a, .int (f : Nat)] ∧ SqL K H a (ns.map V.int) ∧ ns.length ≤ 1000 ∧ f ≤ 100 ∧ (∀ n ∈ ns, Builtin.Int.intBits n ≤ 1048576) ∧ ∀ p H', Ex H H' → H p = none → Tape H' p → Q (.ref p) H'
theorem ok__law_tape (T : Txt K mg) : FnOk P w K mg base CX0 1 T.d__law_tape.a T.d__law_tape.fd ["_law_script", "_law_first"] (spTape K) := by
  refine T.d__law_tape.F.ok sc__law_tape (fun vs H Q E h => ?_) (fun cdv A outer s H vs Q E hr h => ?_)
  · obtain ⟨a, ns, f, rfl, _⟩ := h
    rfl
  · obtain ⟨a, ns, f, rfl, hS, hl, f1, hb, k⟩ := h
    refine ⟨_, (pss_cons (ps_set (i := 2) sc__law_tape.nd rfl (Or.inl rfl) (pe_op op_add pe_int (pe_op op_mulW (pv 1) pe_int)))
      (pss_cons (ps_for PassesOwn.never rfl (pi_list (pv 0)) (pg_name (i := 3) sc__law_tape.nd rfl (Or.inl rfl)) (pss_one (ps_set (i := 2) sc__law_tape.nd rfl (Or.inl rfl) (pe_op op_add (pe_op op_mod (pe_callTy call_int1 (by rfl) T.n_int (by decide +kernel) (pa_cons (pe_op op_powX (pe_op op_add (pe_op op_add (pe_op op_mulW (pv 2) pe_int) (pe_op op_mulX (pv 3) (pv 3))) pe_int) pe_int) pa_nil)) pe_int) pe_int))))
      (pss_cons (ps_set (i := 4) sc__law_tape.nd rfl (Or.inl rfl) (pe_ifExp (PW.pt (pw_and (pt_cmpR op_lt (pv 1) (pe_callB call_len_seq (by rfl) T.n_len (by decide +kernel) (pa_cons (pv 0) pa_nil)) (nomark _)) (pw_and1 (pt_cmpR op_ge (pe_ix ix_list (pv 0) (pv 1) (fun _ _ => rfl)) (pe_op op_pow pe_int pe_int) (nomark _))))) (pe_op op_sub (pe_ix ix_list (pv 0) (pv 1) (fun _ _ => rfl)) (pe_op op_pow pe_int pe_int)) pe_int))
      (pss_one (ps_ret (pe_disp (pps_cons pe_str (pv 4) (pps_cons pe_str (pv 2) pps_nil)) rfl rfl (by simp) (by decide))))))), ?_⟩
    refine n_seq ?_
    refine s_asg (v := .int (101 + (f : Int) * 53)) (ev_add ev_c (ev_mulW (ev_var rfl) ev_c (mulW (a := 64) (b := 64) (b64 (by omega) (by omega)) (b64 (by decide) (by decide)) (by decide)))) fun H1 e1 => ?_
    dsimp only
    refine n_seq ?_
    refine ⟨_, rfl, a, rfl, ⟨_, ex_l e1 hS⟩, ?_⟩
    refine for_list (K := K) (a := a) (xs := ns.map V.int) (fun i σ G => Ex H G ∧ ∃ (m : Int) (y3 y4 : Option V), σ = [some (.ref a), some (.int (f : Nat)), some (.int m), y3, y4] ∧ 0 ≤ m ∧ m ≤ 2147483565) ⟨e1, _, none, none, rfl, by omega, by omega⟩ (fun i σ G _ h => ex_l h.1 hS) ?_ ?_
    · rintro i x σ G hx ⟨ex, m, y3, y4, rfl, m0, m1⟩
      rw [List.getElem?_map] at hx
      obtain ⟨n, hn, rfl⟩ := Option.map_eq_some_iff.mp hx
      obtain ⟨cx, cp⟩ := sq_bits m0 m1 (hb n (List.mem_of_getElem? hn))
      refine n_name ?_
      dsimp only
      refine s_asg (v := .int ((m * 30029 + n * n + 13) ^ (2 : Int).toNat % 2147483563 + 2)) (ev_add (ev_op (ev_intI (ev_op (ev_add (ev_add (ev_mulW (ev_var rfl) ev_c (mulW (a := 64) (b := 64) (b64 m0 (by omega)) (b64 (by decide) (by decide)) (by decide))) (ev_op (ev_var rfl) (ev_var rfl) (rv_I cx))) ev_c) ev_c (rv_I cp))) ev_c (rv_I (by decide : (0 : Int) < 2147483563))) ev_c) fun G2 e2 => ?_
      have a0 : 0 ≤ (m * 30029 + n * n + 13) ^ (2 : Int).toNat % 2147483563 := Int.emod_nonneg _ (by decide)
      have a1 : (m * 30029 + n * n + 13) ^ (2 : Int).toNat % 2147483563 < 2147483563 := Int.emod_lt_of_pos _ (by decide)
      exact ⟨ex.trans e2, _, _, _, rfl, by omega, by omega⟩
    · rintro σ G ⟨ex, m, y3, y4, rfl, m0, m1⟩
      dsimp only
      have hSG := ex_l ex hS
      have lenE : ∀ {σ : L2.St}, σ[0]? = some (some (.ref a)) → Ev (tCB (fun xs H_1 Q => ∃ p ys, xs = [V.ref p] ∧ (SqL K H_1 p ys ∨ SqT K H_1 p ys) ∧ Q (V.int ys.length) H_1) (tCons (tVar 0) tNil)) σ G (.int (ns.length : Int)) := fun h0 H1 e Q k => ⟨_, h0, a, _, rfl, .inl (ex_l e hSG), by rw [List.length_map]; exact k H1 (Ex.refl _)⟩
      have pw : ∀ {σ : L2.St} {G : Hp}, Ev (tOp (rI CPow fun i j => .int (i ^ j.toNat)) (tC (.int 10)) (tC (.int 18))) σ G (.int (10 ^ (18 : Int).toNat)) := fun H1 e Q k => ⟨10, 18, rfl, rfl, ⟨by decide, by decide, by decide⟩, k H1 (Ex.refl H1)⟩
      refine s_join (fun σ' G' => Ex H G' ∧ ∃ d : Int, 0 ≤ d ∧ σ' = [some (.ref a), some (.int (f : Nat)), some (.int m), y3, some (.int d)]) (fun NX hNX => ?_) ?_
      · by_cases lt : f < ns.length
        · have hf := List.getElem?_eq_getElem lt
          generalize ns[f] = n at hf
          have ixE : ∀ {σ : L2.St} {G' : Hp}, Ex G G' → σ[0]? = some (some (.ref a)) → σ[1]? = some (some (.int (f : Nat))) → Ev (tOp (rIxL K) (tVar 0) (tVar 1)) σ G' (.int n) := fun eg h0 h1 H1 e Q k => ⟨_, h0, _, h1, a, _, (f : Nat), _, rfl, rfl, ex_l (eg.trans e) hSG, atI_nat (by rw [List.getElem?_map, hf]; rfl), k H1 (Ex.refl _)⟩
          refine (et_and (a := true) (b := decide ((10 : Int) ^ (18 : Int).toNat ≤ n)) (et_is (et_test (ev_op (ev_var rfl) (lenE rfl) rv_I0)) (decide_eq_true (by omega))) fun _ => et_test (ev_op (ixE (Ex.refl _) rfl rfl) pw rv_I0)) G (Ex.refl _) _ fun G2 e2 => ?_
          by_cases ge : (10 : Int) ^ (18 : Int).toNat ≤ n
          · rw [decide_eq_true ge]
            refine iteT ?_
            refine (ev_sub (ixE e2 rfl rfl) pw) G2 (Ex.refl _) _ fun G3 e3 => ?_
            exact hNX _ _ ⟨(ex.trans e2).trans e3, _, by omega, rfl⟩
          · rw [decide_eq_false ge]
            refine iteF ?_
            exact hNX _ _ ⟨ex.trans e2, 0, by decide, rfl⟩
        · refine (et_and (a := false) (b := false) (et_is (et_test (ev_op (ev_var rfl) (lenE rfl) rv_I0)) (decide_eq_false (by omega))) fun z => nomatch z) G (Ex.refl _) _ fun G2 e2 => ?_
          refine iteF ?_
          exact hNX _ _ ⟨ex.trans e2, 0, by decide, rfl⟩
      · rintro σ' G' ⟨ex', d, d0, rfl⟩
        intro p np
        refine ⟨_, rfl, _, rfl, upd_same, [(.inr ("digits" : Str), .int d), (.inr ("mixed" : Str), .int m)], rfl, by show 2 ≤ 15; decide, ?_⟩
        rw [tp_merge]
        exact k p _ (Ex.mut (ex'.trans (Ex.new np)) (none_ex ex' np)) (none_ex ex' np) ⟨d, m, upd_same, d0, m0, m1⟩
end
/-! ### the law's own fractions -/
section
variable {K : PySem.W.Frag} {σ : L2.St} {H : Hp} {ta tb : TE} {b : Nat} {q : Rat}
def spLowL (K : PySem.W.Frag) : Sp := fun vs H Q _ => ∃ (n d : Int) (b : Nat), vs = [.int n, .int d] ∧ 0 < d ∧ n.natAbs < 2 ^ b ∧ d.natAbs < 2 ^ b ∧ b ≤ 1900 ∧ ∀ z H', Ex H H' → Fr K b (Rat.divInt n d) z H' → Q z H'
end
theorem nat_abs_if (n : Int) : (if n < 0 then -n else n) = ((n.natAbs : Nat) : Int) := by
  by_cases h : n < 0
  · rw [if_pos h]; omega
  · rw [if_neg h]; omega
section
variable {P : Program} {w : World} {K : PySem.W.Frag} {mg : Str → Option Value} {base : Heap}
theorem ok__law_frac (T : Txt K mg) : FnOk P w K mg base CX0 1 T.d__law_frac.a T.d__law_frac.fd ["_law_top", "_law_bottom"] (spLowL K) := by
  refine T.d__law_frac.F.ok sc__law_frac (fun vs H Q E h => ?_) (fun cdv A outer s H vs Q E hr h => ?_)
  · obtain ⟨n, d, b, rfl, _⟩ := h
    rfl
  · obtain ⟨n, d, b, rfl, hd, hn, hb, hl, k⟩ := h
    refine ⟨_, (pss_cons (ps_par (i := 2) (j := 3) (by rfl) sc__law_frac.nd rfl rfl (by decide) rfl rfl (pa_cons (pe_callB call_abs (by rfl) T.n_abs (by decide +kernel) (pa_cons (pv 0) pa_nil)) (pa_cons (pv 1) pa_nil)) (by rfl))
      (pss_cons (ps_while PassesOwn.never (pt_cmpR op_gt (pv 3) pe_int (nomark _)) (pss_one (ps_par (i := 2) (j := 3) (by rfl) sc__law_frac.nd rfl rfl (by decide) rfl rfl (pa_cons (pv 3) (pa_cons (pe_op op_mod (pv 2) (pv 3)) pa_nil)) (by rfl))))
      (pss_one (ps_ret (pe_tup (pa_cons (pe_op op_fdivZ (pv 0) (pv 2)) (pa_cons (pe_op op_fdivZ (pv 1) (pv 2)) pa_nil))))))), ?_⟩
    refine n_seq ?_
    refine ⟨_, rfl, n, rfl, _, rfl, _, _, rfl, ?_⟩
    rw [nat_abs_if]
    dsimp only
    have dn : d = ((d.natAbs : Nat) : Int) := by omega
    have hd0 : d ≠ 0 := by omega
    refine n_seq ?_
    refine while_by (fun σ G => G = H ∧ ∃ a c : Nat, σ = [some (.int n), some (.int d), some (.int a), some (.int c)] ∧ Nat.gcd a c = Nat.gcd n.natAbs d.natAbs)
      (fun σ _ => match σ[3]? with
        | some (some (V.int m)) => m.toNat
        | _ => 0) ⟨rfl, n.natAbs, d.natAbs, by rw [← dn]; rfl, rfl⟩ ?_ ?_
    · rintro σ G ⟨rfl, a, c, rfl, hg⟩
      refine ⟨_, rfl, _, _, rfl, rfl, _, rfl, ?_⟩
      refine ite2 (fun w => ?_) (fun w => ?_)
      · have hc0 : 0 < (c : Int) := of_decide_eq_true w
        refine ⟨_, rfl, _, rfl, _, rfl, a, c, rfl, rfl, hc0, _, _, rfl, ?_⟩
        refine ⟨⟨rfl, c, a % c, ?_, gcd_step hg⟩, ?_⟩
        · rw [Int.natCast_emod]
          rfl
        · show ((a : Int) % (c : Int)).toNat < (c : Int).toNat
          have := Nat.mod_lt a (show c > 0 by omega)
          rw [← Int.natCast_emod]
          omega
      · have hc : c = 0 := by
          by_cases hc : c = 0
          · exact hc
          · exact absurd (decide_eq_true (show (0 : Int) < (c : Int) by omega)) w
        subst hc
        have ha : a = Nat.gcd n.natAbs d.natAbs := gcd_end hg
        subst ha
        dsimp only
        have hG : Nat.gcd n.natAbs d.natAbs ≤ d.natAbs := Nat.gcd_le_right _ (by omega)
        have hp := gcd_pos (n := n) hd0
        have hz : ∀ i : Int, CDivZ i ((Nat.gcd n.natAbs d.natAbs : Nat) : Int) := fun _ => ⟨by omega, by
          have : ((Nat.gcd n.natAbs d.natAbs : Nat) : Int).natAbs = Nat.gcd n.natAbs d.natAbs := by omega
          rw [this]
          exact log_lt (Nat.lt_of_le_of_lt hG hb) (by omega : b ≤ 9000) (by decide)⟩
        have fd : ∀ i : Int, i.fdiv ((Nat.gcd n.natAbs d.natAbs : Nat) : Int) = i / ((Nat.gcd n.natAbs d.natAbs : Nat) : Int) := fun i => Int.fdiv_eq_ediv_of_nonneg i (by omega)
        have e := low_eq n d hd0 1 (by rw [if_neg (by omega)])
        rw [Int.one_mul, Int.one_mul] at e
        exact s_retP (ep_tup (b := b) (ev_fdivZ (ev_var rfl) (ev_var rfl) (hz _)) (ev_fdivZ (ev_var rfl) (ev_var rfl) (hz _)) (by rw [fd]; exact e.1) (by rw [fd]; exact e.2) (bd_divInt hd0 hn hb)) fun z H1 e w => k z H1 e w
    · rintro σ G Q Q' hq ⟨x, h1, i, j, h2, h3, b, h4, h5⟩
      exact ⟨x, h1, i, j, h2, h3, b, h4, hq _ _ h5⟩
end
/-! ### the program: onenumber.errors, onenumber.amounts, for any data -/
/-- an error of the class at C that keeps v, raised from H on -/
def Er (C : Addr) (v : V) (H : Hp) (E : XK) : Prop := ∀ dd k H', Ex H H' → H' dd = some (.xd (kd k v)) → E (.ref C) (some dd) H'
theorem Er.ex {C : Addr} {v : V} {H H1 : Hp} {E : XK} (e : Ex H H1) (h : Er C v H E) : Er C v H1 E := fun dd k H' e' q => h dd k H' (e.trans e') q
theorem rd_raise {C : Addr} {v : V} {σ : L2.St} {H : Hp} {i : Nat} {E : XK} (hv : σ[i]? = some (some v)) (k : Er C v H E) : tMkO C (spInit C) [] (tCons (tVar i) tNil) σ H E := by
  refine ⟨v, hv, by show 1 ≤ 1000; decide, fun a ha => ⟨a, v, rfl, upd_same, fun dx kn H' h1 ne e1 e2 keep => ⟨rfl, dx, _, e1, e2, ?_, ?_⟩⟩⟩
  · rw [upd_ne ne] at h1
    exact h1
  · rw [upd_ne ne] at h1
    refine k dx kn _ (fun b o hb => ?_) upd_same
    have n1 : b ≠ a := ne_of_none hb ha
    rw [upd_ne (ne_of_none hb h1), del_ne n1]
    exact keep b o n1 (by rw [upd_ne n1]; exact hb)
def ival : PyData → Int
  | .int n => n
  | _ => 0
section
variable {K : PySem.W.Frag} {p : Addr} {H H' : Hp} {v : V} {d : PyData} {σ : L2.St} {i : Nat} {b : Bool}
theorem Dq.ival (h : Dq K p H v d) (hw : isWh d = true) : v = .int (ival d) ∧ d = .int (Jf.ival d) := by
  cases h with
  | int n => exact ⟨rfl, rfl⟩
  | _ => cases hw
theorem ev_isi {T : String} (hv : σ[i]? = some (some v)) (hd : Dq K p H v d) (hk : kitB (tyName d) T = some b) : Ev (tCB (rIsi K) (tCons (tVar i) (tCons (tC (.ty T)) tNil))) σ H (.bl b) :=
  fun H1 e Q k => ⟨v, hv, v, .ty T, .type (tyName d), .type T, b, rfl, .ty _, (Dq.ex e _ _ hd).ty, kit_ty hk, k H1 (Ex.refl H1)⟩
def spIsD (K : PySem.W.Frag) (sm : PyData → Prop) (f : PyData → Bool) : Sp := fun vs H Q _ => ∃ (p : Addr) (v : V) (d : PyData), vs = [v] ∧ Dq K p H v d ∧ sm d ∧ ∀ H', Ex H H' → Q (.bl (f d)) H'
theorem ev_isD {E : XK} {sm : PyData → Prop} {f : PyData → Bool} {te : TE} (he : Ev te σ H v) (hd : Dq K p H v d) (hs : sm d) : Ev (tCall (spIsD K sm f) [] E (tCons te tNil)) σ H (.bl (f d)) :=
  fun H1 e Q k => he H1 e _ fun H2 e2 => ⟨p, v, d, rfl, Dq.ex (e.trans e2) _ _ hd, hs, fun H' e' => k H' (e2.trans e')⟩
/-- nothing asked -/
def Any (_ : PyData) : Prop := True
def spReq (K : PySem.W.Frag) (C : Addr) (f : PyData → Bool) : Sp := fun vs H Q E => ∃ (p : Addr) (v : V) (d : PyData), vs = [v] ∧ Dq K p H v d ∧ (f d = true → ∀ H', Ex H H' → Q .non H') ∧ (f d = false → Er C v H E)
/-- two fractions, or none -/
def spX (K : PySem.W.Frag) (C : Addr) (ok : Rat → Prop) (R : Rat → Rat → V → Hp → Prop) : Sp := fun vs H Q E => ∃ (p : Addr) (u v : V) (d e : PyData), vs = [u, v] ∧ Dq K p H u d ∧ Dq K p H v e ∧ Bd 100 (frQ d) ∧ Bd 100 (frQ e) ∧
  (frB d = false → Er C u H E) ∧ (frB d = true → frB e = false → Er C v H E) ∧ (frB d = true → frB e = true → ¬ ok (frQ e) → Er C v H E) ∧
  (frB d = true → frB e = true → ok (frQ e) → ∀ z H', Ex H H' → R (frQ d) (frQ e) z H' → Q z H')
end
section
variable {P : Program} {w : World} {K : PySem.W.Frag} {mg : Str → Option Value} {base : Heap}
end
section
variable {P : Program} {w : World} {K : PySem.W.Frag} {mg : Str → Option Value} {base : Heap}
theorem ok_i_MixError (T : Txt K mg) : FnOk P w K mg base CX0 1 T.M.f T.M.fd ["self", "value"] (spInitM K) := by
  refine T.M.F.ok sc_i_MixError (fun vs H Q E h => ?_) (fun cdv A outer s H vs Q E hr h => ?_)
  · obtain ⟨C, a, v, nm, rfl, _⟩ := h
    rfl
  · obtain ⟨C, a, v, nm, rfl, ox, nv, nk, NM, ha, k⟩ := h
    refine ⟨_, pss_cons (ps_expr (pe_veinit (by rfl) T.n_ValueError T.v_VE (pa_cons (pv 0) (pa_cons pe_str pa_nil)))) (pss_cons (ps_ost (pv 0) (pv 1)) (pss_one (ps_ost (pv 0) (pe_nm (pv 0))))), ?_⟩
    refine ⟨_, rfl, a, C, _, rfl, by show 1 ≤ 1000; decide, ox, ha, ?_⟩
    refine ⟨v, rfl, .ref a, rfl, a, C, rfl, ox, nv, .inl ⟨ha, fun dx hdx ne => ?_⟩⟩
    have ed : (upd (upd H dx (exd dx [(("value" : Str), v)])) a (exo a C (some dx))) dx = some (exd dx [(("value" : Str), v)]) := by rw [upd_ne ne]; exact upd_same
    refine ⟨.ref a, rfl, a, C, dx, _, nm, rfl, NM, upd_same, ed, .ref a, rfl, a, C, rfl, ox, nk, .inr ⟨dx, _, upd_same, ed, by show 1 ≤ 900; decide, ?_⟩⟩
    refine k dx nm _ hdx ne (by rw [upd_ne ne.symm]; exact upd_same) upd_same fun b o hb h => ?_
    rw [upd_ne (ne_of_none h hdx), upd_ne hb, upd_ne (ne_of_none h hdx)]
    exact h
theorem ok_i_BadText (T : Txt K mg) : FnOk P w K mg base CX0 2 T.E_BadText.f T.E_BadText.fd ["self", "value"] (spInit T.E_BadText.C) := by
  refine T.E_BadText.F.ok sc_i_BadText (fun vs H Q E h => ?_) (fun cdv A outer s H vs Q E hr h => ?_)
  · obtain ⟨a, v, rfl, _⟩ := h
    rfl
  · obtain ⟨a, v, rfl, ha, k⟩ := h
    refine ⟨_, pss_one (ps_expr (pe_clsdef (by rfl) T.M.g T.M.rd T.M.ga T.M.fi T.M.kp (ok_i_MixError T) (hr.mono (by decide)) T.M.b pass0 (pa_cons (pv 0) (pa_cons (pv 1) pa_nil)))), ?_⟩
    exact ⟨_, rfl, _, rfl, T.E_BadText.C, a, v, _, rfl, T.E_BadText.x.oex, T.E_BadText.x.noV, T.E_BadText.x.noK, T.E_BadText.x.nm, ha, k⟩
end
section
variable {P : Program} {w : World} {K : PySem.W.Frag} {mg : Str → Option Value} {base : Heap}
theorem ok_is_whole (T : Txt K mg) : FnOk P w K mg base CX0 1 T.d_is_whole.a T.d_is_whole.fd ["value"] (spIsD K Any isWh) := by
  refine T.d_is_whole.F.ok sc_is_whole (fun vs H Q E h => ?_) (fun cdv A outer s H vs Q E hr h => ?_)
  · obtain ⟨p, v, d, rfl, _⟩ := h
    rfl
  · obtain ⟨p, v, d, rfl, hd, _, k⟩ := h
    refine ⟨_, (pss_one (ps_ret (pe_and (pe_callB call_isi (by rfl) T.n_isinstance (by decide +kernel) (pa_cons (pv 0) (pa_cons (pe_bltn (v := .ty "int") (by rfl) T.n_int (by decide +kernel) rfl) pa_nil))) (pe_one (pe_not (pe_callB call_isi (by rfl) T.n_isinstance (by decide +kernel) (pa_cons (pv 0) (pa_cons (pe_bltn (v := .ty "bool") (by rfl) T.n_bool (by decide +kernel) rfl) pa_nil)))))))), ?_⟩
    refine s_ret (ev_andV (ev_isi rfl hd (kit_int d)) fun _ => ev_notV (ev_isi rfl hd (kit_bool d))) fun H1 e => ?_
    rw [wh_eq]
    exact k H1 e
theorem ok_is_fraction (T : Txt K mg) : FnOk P w K mg base CX0 2 T.d_is_fraction.a T.d_is_fraction.fd ["value"] (spIsD K Any frB) := by
  refine T.d_is_fraction.F.ok sc_is_fraction (fun vs H Q E h => ?_) (fun cdv A outer s H vs Q E hr h => ?_)
  · obtain ⟨p, v, d, rfl, _⟩ := h
    rfl
  · obtain ⟨p, v, d, rfl, hd, _, k⟩ := h
    refine ⟨_, (pss_cons (ps_if (PW.pt (pw_or (pt_not (pt_val (pe_callB call_isi (by rfl) T.n_isinstance (by decide +kernel) (pa_cons (pv 0) (pa_cons (pe_bltn (v := .ty "tuple") (by rfl) T.n_tuple (by decide +kernel) rfl) pa_nil))))) (pw_or1 (pt_cmpR op_ne (pe_callB call_len_seq (by rfl) T.n_len (by decide +kernel) (pa_cons (pv 0) pa_nil)) pe_int (nomark _))))) (pss_one (ps_ret pe_bl)) pss_nil)
      (pss_cons (ps_asg (pv 0) (pg_tup (by rfl) (pgs_cons (pg_name (i := 1) sc_is_fraction.nd rfl (Or.inl rfl)) (pgs_cons (pg_name (i := 2) sc_is_fraction.nd rfl (Or.inl rfl)) pgs_nil))))
      (pss_cons (ps_if (PW.pt (pw_or (pt_not (pt_val (pe_call (ok_is_whole T) (hr.mono (by decide)) (by rfl) T.d_is_whole.g T.d_is_whole.F.kp T.d_is_whole.b .nil pass0 (pa_cons (pv 1) pa_nil)))) (pw_or (pt_not (pt_val (pe_call (ok_is_whole T) (hr.mono (by decide)) (by rfl) T.d_is_whole.g T.d_is_whole.F.kp T.d_is_whole.b .nil pass0 (pa_cons (pv 2) pa_nil)))) (pw_or1 (pt_cmpR op_le (pv 2) pe_int (nomark _)))))) (pss_one (ps_ret pe_bl)) pss_nil)
      (pss_one (ps_ret (pe_cmpR op_eq (pe_callBfun cr_gcd (by rfl) T.n_gcd (pa_cons (pv 1) (pa_cons (pv 2) pa_nil))) pe_int (nomark _))))))), ?_⟩
    by_cases ht : isTup d = true
    · cases hd with
      | @tup a xs ds hS hA =>
        by_cases h2 : xs.length = 2
        · have h2' := h2
          rw [hA.len] at h2'
          obtain ⟨x1, x2, rfl⟩ : ∃ x1 x2, xs = [x1, x2] := match xs, h2 with | [x1, x2], _ => ⟨x1, x2, rfl⟩
          obtain ⟨d1, d2, rfl⟩ : ∃ d1 d2, ds = [d1, d2] := match ds, h2' with | [d1, d2], _ => ⟨d1, d2, rfl⟩
          have hD : Dq K p H (.ref a) (.tuple [d1, d2]) := .tup hS hA
          obtain ⟨q1, q2⟩ : Dq K p H x1 d1 ∧ Dq K p H x2 d2 := by
            cases hA with
            | cons a b =>
              cases b with
              | cons b c => exact ⟨a, b⟩
          refine s_if (b := false) (et_is (et_or (et_not (et_B (ev_isi rfl hD (kit_tup _)))) fun _ => et_test (fun H1 e Q k => ⟨_, rfl, a, _, rfl, .inr (ex_t e hS), rfl, k H1 (Ex.refl H1)⟩)) rfl) (fun z => nomatch z) fun _ H1 e1 => ?_
          refine ⟨_, rfl, a, [x1, x2], rfl, ex_t e1 hS, rfl, _, _, rfl, _, _, rfl, rfl, ?_⟩
          have r1 := Dq.ex e1 _ _ q1
          have r2 := Dq.ex e1 _ _ q2
          have hlt : isWh d2 = true → x2 = .int (ival d2) := fun z => (r2.ival z).1
          refine s_if (b := !isWh d1 || (!isWh d2 || decide (ival d2 ≤ 0))) (et_or (et_not (et_B (ev_isD (ev_var rfl) r1 trivial))) fun _ => et_or (et_not (et_B (ev_isD (ev_var rfl) r2 trivial))) fun z => et_test (by
            have z' : isWh d2 = true := by simpa using z
            have hx := hlt z'
            subst hx
            exact ev_op (ev_var rfl) ev_c rv_I0)) (fun z H2 e2 => ?_) (fun z H2 e2 => ?_)
          · have e : frB (.tuple [d1, d2]) = false := by
              cases d1 with
              | int n =>
                cases d2 with
                | int m =>
                  have z' : decide (m ≤ 0) = true := z
                  have : ¬ 0 < m := by
                    have := of_decide_eq_true z'
                    omega
                  simp [frB, this]
                | _ => rfl
              | _ => rfl
            rw [e] at k
            exact k H2 (e1.trans e2)
          · have w1 : isWh d1 = true := by
              cases h : isWh d1 with
              | true => rfl
              | false =>
                rw [h] at z
                cases z
            have w2 : isWh d2 = true := by
              cases h : isWh d2 with
              | true => rfl
              | false =>
                rw [h, w1] at z
                cases z
            obtain ⟨g1, g2⟩ := r1.ival w1
            obtain ⟨g3, g4⟩ := r2.ival w2
            rw [w1, w2] at z
            have z' : ¬ ival d2 ≤ 0 := of_decide_eq_false (by simpa using z)
            generalize ival d1 = n at g1 g2
            generalize ival d2 = m at g3 g4 z'
            subst g1 g2 g3 g4
            refine ⟨_, rfl, _, rfl, n, m, rfl, rfl, ?_⟩
            have e : frB (.tuple [.int n, .int m]) = decide (V.int ((Nat.gcd n.natAbs m.natAbs : Nat) : Int) = V.int 1) := by
              simp only [frB]
              rw [decide_eq_true (by omega : 0 < m), Bool.true_and]
              rw [Bool.eq_iff_iff, decide_eq_true_iff, decide_eq_true_iff]
              constructor
              · intro h
                rw [h]
                rfl
              · intro h
                have := V.int.inj h
                omega
            rw [e] at k
            exact k H2 (e1.trans e2)
        · refine s_if (b := true) (et_is (et_or (et_not (et_B (ev_isi rfl (.tup hS hA) (kit_tup _)))) fun _ => et_test (fun H1 e Q k => ⟨_, rfl, a, _, rfl, .inr (ex_t e hS), rfl, k H1 (Ex.refl H1)⟩)) ?_) (fun _ H1 e1 => ?_) (fun z => nomatch z)
          · have : ¬ V.int (xs.length : Int) = V.int 2 := fun z => h2 (by
              have := V.int.inj z
              omega)
            simp [isTup, this]
          · have e : frB (.tuple ds) = false := by
              have := hA.len
              match ds, this with
              | [], _ => rfl
              | [_], _ => simp [frB]
              | [_, _], h => exact absurd h h2
              | _ :: _ :: _ :: _, _ => simp [frB]
            rw [e] at k
            exact k H1 e1
      | _ => cases ht
    · have e : frB d = false := by
        cases d <;> (first | rfl | exact absurd rfl ht)
      have ht' : isTup d = false := by simpa using ht
      refine s_if (b := true) (et_is (et_or (b := false) (et_not (et_B (ev_isi rfl hd (kit_tup d)))) fun z => ?_) ?_) (fun _ H1 e1 => ?_) (fun z => nomatch z)
      · rw [ht'] at z
        cases z
      · rw [ht']
        rfl
      · rw [e] at k
        exact k H1 e1
end
/-! ### the program: onenumber.amounts, onenumber.terms: what has the form of a term -/
def posB (d : PyData) : Bool := frB d && decide (0 < (frQ d).num)
def outB : PyData → Bool
  | .tuple [w, _] => posB w
  | _ => false
def stepB : List PyData → Bool
  | [_, q, .tuple os] => frB q && (decide (os.length ≤ 3) && os.all outB)
  | _ => false
def allB : List PyData → Bool
  | [_, .tuple ts] => decide (2 ≤ ts.length) && decide (ts.length ≤ 3)
  | _ => false
section
variable {K : PySem.W.Frag} {p : Addr} {H : Hp} {v : V} {d : PyData} {σ : L2.St} {i : Nat}
theorem Dq.seq {ds : List PyData} (h : Dq K p H v (.tuple ds)) : ∃ a xs, v = .ref a ∧ SqT K H a xs ∧ DqAll K p H xs ds := by
  cases h with
  | tup hS hA => exact ⟨_, _, rfl, hS, hA⟩
theorem ev_lenT {ds : List PyData} (hv : σ[i]? = some (some v)) (hd : Dq K p H v (.tuple ds)) : Ev (tCB (fun xs H_1 Q => ∃ p ys, xs = [V.ref p] ∧ (SqL K H_1 p ys ∨ SqT K H_1 p ys) ∧ Q (V.int ys.length) H_1) (tCons (tVar i) tNil)) σ H (.int (ds.length : Int)) := fun H1 e Q k => by
  obtain ⟨a, xs, rfl, hS, hA⟩ := hd.seq
  refine ⟨_, hv, a, xs, rfl, .inr (ex_t e hS), ?_⟩
  rw [hA.len]
  exact k H1 (Ex.refl H1)
theorem DqAll.get : ∀ {vs : List V} {ds : List PyData} {j : Nat} {dj : PyData}, DqAll K p H vs ds → ds[j]? = some dj → ∃ x, vs[j]? = some x ∧ Dq K p H x dj
  | _, _, j, dj, .nil, e => by simp at e
  | _, _, 0, dj, .cons h hs, e => by
    simp only [List.getElem?_cons_zero, Option.some.injEq] at e
    subst e
    exact ⟨_, rfl, h⟩
  | _, _, j + 1, dj, .cons h hs, e => by
    simp only [List.getElem?_cons_succ] at e ⊢
    exact DqAll.get hs e
/-- an item of a tuple -/
theorem ed_ix {ds : List PyData} {j : Nat} {dj : PyData} (hv : σ[i]? = some (some v)) (hd : Dq K p H v (.tuple ds)) (e : ds[j]? = some dj) : EvP (tOp (rIxT K) (tVar i) (tC (.int (j : Int)))) σ H (fun x H' => Dq K p H' x dj) := fun H1 e1 Q k => by
  obtain ⟨a, xs, rfl, hS, hA⟩ := hd.seq
  obtain ⟨x, hx, q⟩ := hA.get e
  exact ⟨_, hv, a, xs, j, x, rfl, rfl, ex_t e1 hS, atI_nat hx, k x H1 (Ex.refl _) (Dq.ex e1 _ _ q)⟩
theorem ev_isDp {E : XK} {sm : PyData → Prop} {f : PyData → Bool} {te : TE} (he : EvP te σ H fun x H' => Dq K p H' x d) (hs : sm d) : Ev (tCall (spIsD K sm f) [] E (tCons te tNil)) σ H (.bl (f d)) :=
  fun H1 e Q k => he H1 e _ fun x H2 e2 q => ⟨p, x, d, rfl, q, hs, fun H' e' => k H' (e2.trans e')⟩
end
section
variable {P : Program} {w : World} {K : PySem.W.Frag} {mg : Str → Option Value} {base : Heap}
end
/-! ### tables -/
section
variable {P : Program} {w : World} {K : PySem.W.Frag} {mg : Str → Option Value} {base : Heap}
/-- a def by its body, its code object known -/
theorem okC {x qual : Str} {st : Stmt} {f c : Addr} {fd : FuncData} {N ps : List Str} {k : Nat} {sp : Sp} (F : Fun K x qual st f fd) (hc : fd.code = .ref c) (S : FnScope N ps (defScope st)) (len : ∀ vs H Q E, sp vs H Q E → vs.length = ps.length)
    (body : ∀ (A : Around) (outer : List Env) (s : Shared) (H : Hp) (vs : List V) (Q : VK) (E : XK), Room k (A.deeper (envOfC qual (defScope st) s.heap.objs.size f (.ref c))) → sp vs H Q E →
      ∃ t, PSs (cxOf CX0 P w K mg base N qual (defScope st) f (.ref c) A outer s H E).nox (defBody st) t ∧ t { nx := fun _ H' => Q .non H', rt := Q } (start N vs) H) : FnOk P w K mg base CX0 (k + 1) f fd ps sp := by
  obtain ⟨oc, od, kV, doc, pm, an, cdv, ct, osl, rfl, lk, hcd⟩ := F.ex
  obtain rfl : cdv = .ref c := hc
  apply fn_of lk hcd S len
  intro A outer s H vs Q E hr hsp
  obtain ⟨t, h, q⟩ := body A outer s H vs Q E hr hsp
  exact ⟨t, h.nox, q⟩
end
/-! ### has_form_of_step, has_form_of_all, has_form_of_term -/
theorem rd_allEv {K : PySem.W.Frag} {p : Addr} {te : TE} {f : PyData → Bool} : ∀ {vs : List V} {ds : List PyData} {H : Hp} {Q : Bool → Hp → Prop}, DqAll K p H vs ds → (∀ v d H', Dq K p H' v d → Ev te [none, some v] H' (.bl (f d))) → (∀ H', Ex H H' → Q (ds.all f) H') → rdAll te vs H Q
  | _, _, H, Q, .nil, _, k => k H (Ex.refl H)
  | _, _, H, Q, .cons (d := d) h hs, he, k => by
    refine he _ d H h H (Ex.refl H) _ fun H1 e1 => ⟨f d, rfl, fun hb => ?_, fun hb => ?_⟩
    · refine rd_allEv (DqAll.ex e1 _ _ hs) he fun H' e' => ?_
      have := k H' (e1.trans e')
      rwa [List.all_cons, hb, Bool.true_and] at this
    · have := k H1 e1
      rwa [List.all_cons, hb, Bool.false_and] at this
abbrev tts {K : PySem.W.Frag} {mg : Str → Option Value} (T : Txt K mg) : TbS := ([T.P_are_figures], [(T.P_law, "law.<locals>.<lambda>")])
theorem tts_m1 {K : PySem.W.Frag} {mg : Str → Option Value} (T : Txt K mg) : T.P_are_figures ∈ (tts T).1 := List.mem_cons_self ..
theorem tabs_ex {Ts : TbS} {H H' : Hp} (h : TBs Ts H) (e : Ex H H') : TBs Ts H' := h.ex e
def spStepF (K : PySem.W.Frag) (Ts : TbS) : Sp := fun vs H Q _ => ∃ (p : Addr) (v : V) (ds : List PyData), vs = [v] ∧ Dq K p H v (.tuple ds) ∧ TBs Ts H ∧ ∀ H', ExT H H' → TBs Ts H' → Q (.bl (stepB ds)) H'
section
variable {P : Program} {w : World} {K : PySem.W.Frag} {mg : Str → Option Value} {base : Heap}
end
/-! ### has_form_of_all, has_form_of_term, is_step -/
def headB : PyData → Bool
  | .tuple (.str s :: r) => if s = "step" then stepB (.str s :: r) else if s = "all" then allB (.str s :: r) else decide (s = "end") && r.isEmpty
  | _ => false
/-- what is asked of it: no tuple, or a name ahead -/
def isStr : PyData → Bool
  | .str _ => true
  | _ => false
def Named (d : PyData) : Prop := isTup d = false ∨ d = .tuple [] ∨ (∃ s r, d = .tuple (.str s :: r) ∧ (s = "step" ∨ s = "all" ∨ (d.hasDict = false ∧ SeqAt.shaped d = true))) ∨ ∃ x r, d = .tuple (x :: r) ∧ isStr x = false ∧ d.hasDict = false ∧ SeqAt.shaped d = true
/-- == of scalars, or of data -/
def rEqU (K : PySem.W.Frag) : R2 := fun x y H Q => rEq x y H Q ∨ rEqD K x y H Q
theorem op_eqU {X : Cx} (hu : X.A.units + 64 < cLine) : OpR X (compareOp .Eq) (rEqU X.K) := by
  intro pins s σ H x y v u Q I rx ry h
  rcases h with h | h
  · exact op_eq pins s σ H x y v u Q I rx ry h
  · exact op_eqD hu pins s σ H x y v u Q I rx ry h
section
variable {K : PySem.W.Frag} {p : Addr} {H : Hp} {v : V} {d : PyData} {σ : L2.St} {i : Nat} {te ta tb tc : TE} {x y w : V} {r r' : R2}
theorem ev_isiP {T : String} {b : Bool} (h : EvP te σ H fun x H' => Dq K p H' x d) (hk : kitB (tyName d) T = some b) : Ev (tCB (rIsi K) (tCons te (tCons (tC (.ty T)) tNil))) σ H (.bl b) :=
  fun H1 e Q k => h H1 e _ fun x H2 e2 q => ⟨x, .ty T, .type (tyName d), .type T, b, rfl, .ty _, q.ty, kit_ty hk, k H2 e2⟩
theorem ev_lenP {ds : List PyData} (h : EvP te σ H fun x H' => Dq K p H' x (.tuple ds)) : Ev (tCB (fun xs H_1 Q => ∃ p ys, xs = [V.ref p] ∧ (SqL K H_1 p ys ∨ SqT K H_1 p ys) ∧ Q (V.int ys.length) H_1) (tCons te tNil)) σ H (.int (ds.length : Int)) := fun H1 e Q k => h H1 e _ fun x H2 e2 q => by
  obtain ⟨a, xs, rfl, hS, hA⟩ := q.seq
  refine ⟨a, xs, rfl, .inr hS, ?_⟩
  rw [hA.len]
  exact k H2 e2
theorem ev_chain {a b : Bool} (ha : Ev ta σ H x) (hb : Ev tb σ H y) (hc : Ev tc σ H w) (h1 : ∀ H, RV r x y H (.bl a)) (h2 : ∀ H, RV r' y w H (.bl b)) : Ev (tChain r r' ta tb tc) σ H (.bl (a && b)) := fun H1 e Q k =>
  ha H1 e _ fun H2 e2 => hb H2 (e.trans e2) _ fun H3 e3 => h1 H3 H3 (Ex.refl _) _ fun H4 e4 => ⟨a, rfl, by
    cases a with
    | true =>
      rw [if_pos rfl]
      exact hc H4 (((e.trans e2).trans e3).trans e4) _ fun H5 e5 => h2 H5 H5 (Ex.refl _) _ fun H6 e6 => k H6 ((((e2.trans e3).trans e4).trans e5).trans e6)
    | false =>
      rw [if_neg (by decide)]
      exact k H4 ((e2.trans e3).trans e4)⟩
end
def spAllF (K : PySem.W.Frag) : Sp := fun vs H Q _ => ∃ (p : Addr) (v : V) (ds : List PyData), vs = [v] ∧ Dq K p H v (.tuple ds) ∧ ∀ H', Ex H H' → Q (.bl (allB ds)) H'
def spTermF (K : PySem.W.Frag) (Ts : TbS) : Sp := fun vs H Q _ => ∃ (p : Addr) (v : V) (d : PyData), vs = [v] ∧ Dq K p H v d ∧ Named d ∧ TBs Ts H ∧ ∀ H', ExT H H' → TBs Ts H' → Q (.bl (headB d)) H'
def spIsStep (K : PySem.W.Frag) : Sp := fun vs H Q _ => ∃ (p : Addr) (v : V) (s : Str) (r : List PyData), vs = [v] ∧ Dq K p H v (.tuple (.str s :: r)) ∧ ∀ H', Ex H H' → Q (.bl (decide (s = "step"))) H'
section
variable {P : Program} {w : World} {K : PySem.W.Frag} {mg : Str → Option Value} {base : Heap}
end
/-! ### has_form_of_term, children -/
/-- what stands right within -/
def sndD : PyData → PyData
  | .tuple [_, d] => d
  | _ => .none
def kidsS : List PyData → List PyData
  | [_, .tuple os] => os.map sndD
  | _ => []
def kidsA : List PyData → List PyData
  | [.tuple ts] => ts
  | _ => []
def kidsD : PyData → List PyData
  | .tuple (.str s :: r) => if s = "step" then kidsS r else if s = "all" then kidsA r else []
  | _ => []
section
variable {K : PySem.W.Frag} {p : Addr} {H : Hp} {v : V} {d : PyData} {σ : L2.St} {i : Nat}
theorem et_tru {ds : List PyData} (hv : σ[i]? = some (some v)) (hd : Dq K p H v (.tuple ds)) : EvT (fun σ H Q => tVar i σ H fun x H' => ∃ k, TruV K x H' k ∧ Q k H') σ H (!ds.isEmpty) := fun H1 e Q k => by
  obtain ⟨a, xs, rfl, hS, hA⟩ := hd.seq
  refine ⟨_, hv, !ds.isEmpty, .inr (.inl ⟨xs, ex_t e hS, ?_⟩), k H1 (Ex.refl H1)⟩
  have := hA.len
  cases xs <;> cases ds <;> first | rfl | simp at this
theorem ev_name {s : Str} {r : List PyData} {t : Str} (hv : σ[i]? = some (some v)) (hd : Dq K p H v (.tuple (.str s :: r))) : Ev (tOp rEq (tOp (rIxT K) (tVar i) (tC (.int 0))) (tC (.str t))) σ H (.bl (decide (s = t))) := fun H1 e Q kk =>
  ed_ix (K := K) (p := p) (j := 0) hv hd rfl H1 e _ fun x H2 e2 q => by
    cases q with
    | str s =>
      refine ⟨rfl, ?_⟩
      have e : decide (V.str s = V.str t) = decide (s = t) := by
        rw [Bool.eq_iff_iff, decide_eq_true_iff, decide_eq_true_iff]
        exact ⟨fun z => V.str.inj z, fun z => by rw [z]⟩
      rw [e]
      exact kk H2 e2
theorem ev_nameU {s : Str} {r : List PyData} {t : Str} (hv : σ[i]? = some (some v)) (hd : Dq K p H v (.tuple (.str s :: r))) : Ev (tOp (rEqU K) (tOp (rIxT K) (tVar i) (tC (.int 0))) (tC (.str t))) σ H (.bl (decide (s = t))) := fun H1 e Q kk => by
  obtain ⟨x, hx, a, xs, j, y, h1, h2, h3, h4, h5⟩ := (ev_name (t := t) hv hd) H1 e _ kk
  exact ⟨x, hx, a, xs, j, y, h1, h2, h3, h4, .inl h5⟩
mutual
theorem Dq.dp : ∀ (d : PyData) (v : V), d.hasDict = false → Dq K p H v d → Dp K H v d
  | _, _, _, .non => .non
  | _, _, _, .bl b => .bl b
  | _, _, _, .int i => .int i
  | _, _, _, .str x => .str x
  | _, _, h0, .lst n m h hs => .lst (SqL.of h) (DqAll.dp _ _ (by simpa [PyData.hasDict] using h0) hs)
  | _, _, h0, .tup h hs => .tup h (DqAll.dp _ _ (by simpa [PyData.hasDict] using h0) hs)
  | _, _, h0, .emp h => by simp [PyData.hasDict] at h0
theorem DqAll.dp : ∀ (ds : List PyData) (vs : List V), PyData.hasDictAll ds = false → DqAll K p H vs ds → DpAll K H vs ds
  | _, _, _, .nil => .nil
  | _, _, h0, .cons h hs => by
    simp only [PyData.hasDictAll, Bool.or_eq_false_iff] at h0
    exact .cons (Dq.dp _ _ h0.1 h) (DqAll.dp _ _ h0.2 hs)
end
end
section
variable {K : PySem.W.Frag} {p : Addr} {H : Hp} {v : V} {σ : L2.St} {i : Nat}
theorem ev_nameN {x : PyData} {r : List PyData} {t : Str} (hv : σ[i]? = some (some v)) (hd : Dq K p H v (.tuple (x :: r))) (ns : isStr x = false) (hnd : PyData.hasDict (.tuple (x :: r)) = false) (hsh : SeqAt.shaped (.tuple (x :: r)) = true) (ht : SeqAt.shaped (.str t) = true) : Ev (tOp (rEqU K) (tOp (rIxT K) (tVar i) (tC (.int 0))) (tC (.str t))) σ H (.bl false) := fun H1 e Q kk =>
  ed_ix (K := K) (p := p) (j := 0) (dj := x) hv hd rfl H1 e _ fun y H2 e2 q => by
    have h0 : x.hasDict = false := by
      have : (x.hasDict || PyData.hasDictAll r) = false := hnd
      simp only [Bool.or_eq_false_iff] at this
      exact this.1
    have h1 : SeqAt.shaped x = true := by
      have h2 := SeqAt.canLay_of_shaped hsh
      have h3 := SeqAt.depth_of_shaped hsh
      have h4 : (x.canLay0 && PyData.canLayAll0 r) = true := h2
      have h5 : max x.depth (PyData.depthAll r) + 1 ≤ 64 := h3
      simp only [Bool.and_eq_true] at h4
      unfold SeqAt.shaped
      rw [h4.1, decide_eq_true (by omega)]
      rfl
    have h6 : PyData.eqv x (.str t) = false := by
      cases x with
      | str _ => cases ns
      | _ => simp [PyData.eqv]
    exact .inr ⟨x, .str t, Dq.dp _ _ h0 q, .str t, h1, ht, by rw [h6]; exact kk H2 e2⟩
end
def spKids (K : PySem.W.Frag) : Sp := fun vs H Q _ => ∃ (p : Addr) (v : V) (d : PyData), vs = [v] ∧ Dq K p H v d ∧ headB d = true ∧ ∀ l ys H', Ex H H' → H l = none → H' l = some (.lst ys) → DqAll K p H' ys (kidsD d) → Q (.ref l) H'
section
variable {P : Program} {w : World} {K : PySem.W.Frag} {mg : Str → Option Value} {base : Heap}
end
/-! ### tests that come out false -/
section
variable {K : PySem.W.Frag} {σ : L2.St} {H : Hp} {D : Ends} {t : TT} {tu tw : TS}
theorem yes_of {Q : Bool → Hp → Prop} (h : Q true H) : tYes σ H Q := h
theorem s_skip (h : EvT t σ H false) (k : ∀ H1, Ex H H1 → D.nx σ H1) : tIfS t tu tNext D σ H := s_if h (fun z => nomatch z) fun _ H1 e => k H1 e
theorem dec_ne {x y : Int} (h : x = y) : (!decide (V.int x = V.int y)) = false := by subst h; simp
theorem dec_neQ {x y : Rat} (h : x = y) : (!decide (x = y)) = false := by subst h; simp
theorem or_ff {a b : Bool} (h : a = false) (h' : b = false) : (a || b) = false := by subst h h'; rfl
/-- the test «two fractions differ» of two that are the same -/
theorem et_neF {ta tb : TE} {b c : Nat} {q r : Rat} (ha : EvP ta σ H (Fr K b q)) (hb : EvP tb σ H (Fr K c r)) (h : q = r) : EvT (tTest (tOp (rNeD K) ta tb)) σ H false := et_is (et_test (ev_neD ha hb)) (dec_neQ h)
theorem et_orF {t u : TT} (h1 : EvT t σ H false) (h2 : EvT u σ H false) : EvT (tOr t u) σ H false := et_is (et_or h1 fun _ => h2) rfl
/-- a written pair -/
theorem ep_lit {x y : Int} {q : Rat} {b : Nat} (e1 : x = q.num) (e2 : y = (q.den : Int)) (bd : Bd b q) : EvP (tTup (tCons (tC (.int x)) (tCons (tC (.int y)) tNil))) σ H (Fr K b q) := ep_tup ev_c ev_c e1 e2 bd
theorem ep_01 : EvP (tTup (tCons (tC (.int 0)) (tCons (tC (.int 1)) tNil))) σ H (Fr K 1 0) := ep_lit rfl rfl ⟨by decide, by decide⟩
end
/-! ### children -/
theorem outB_two {o : PyData} (h : outB o = true) : ∃ w d, o = .tuple [w, d] := by
  match o, h with
  | .tuple [w, d], _ => exact ⟨w, d, rfl⟩
theorem headB_cases {d : PyData} (h : headB d = true) : d = .tuple [.str "end"] ∨ (∃ ts, d = .tuple [.str "all", .tuple ts] ∧ 2 ≤ ts.length ∧ ts.length ≤ 3) ∨ ∃ q os, d = .tuple [.str "step", q, .tuple os] ∧ frB q = true ∧ os.length ≤ 3 ∧ ∀ o ∈ os, outB o = true := by
  match d, h with
  | .tuple (.str s :: r), h =>
    have h' : (if s = "step" then stepB (.str s :: r) else if s = "all" then allB (.str s :: r) else decide (s = "end") && r.isEmpty) = true := h
    by_cases h1 : s = "step"
    · rw [if_pos h1] at h'
      subst h1
      match r, h' with
      | [q, .tuple os], h' =>
        have h2 : (frB q && (decide (os.length ≤ 3) && os.all outB)) = true := h'
        simp only [Bool.and_eq_true, decide_eq_true_eq, List.all_eq_true] at h2
        exact .inr (.inr ⟨q, os, rfl, h2.1, h2.2.1, h2.2.2⟩)
    · rw [if_neg h1] at h'
      by_cases h2 : s = "all"
      · rw [if_pos h2] at h'
        subst h2
        match r, h' with
        | [.tuple ts], h' =>
          have h3 : (decide (2 ≤ ts.length) && decide (ts.length ≤ 3)) = true := h'
          simp only [Bool.and_eq_true, decide_eq_true_eq] at h3
          exact .inr (.inl ⟨ts, rfl, h3⟩)
      · rw [if_neg h2] at h'
        simp only [Bool.and_eq_true, decide_eq_true_eq, List.isEmpty_iff] at h'
        obtain ⟨rfl, rfl⟩ := h'
        exact .inl rfl
section
variable {P : Program} {w : World} {K : PySem.W.Frag} {mg : Str → Option Value} {base : Heap}
end
/-! ### measure -/
def isStD : PyData → Nat
  | .tuple (.str s :: _) => if s = "step" then 1 else 0
  | _ => 0
/-- how the walk over what waits goes on: what is told of it at last -/
inductive Run : List PyData → Nat → Nat → Option (Nat × Nat) → Prop
  | done {s n : Nat} : Run [] s n (some (s, n))
  | bad {st : List PyData} {d : PyData} {s n : Nat} : Named d → headB d = false → Run (st ++ [d]) s n none
  | many {st : List PyData} {d : PyData} {s n : Nat} : Named d → headB d = true → (16 < s + isStD d ∨ 48 < n + 1) → Run (st ++ [d]) s n none
  | go {st : List PyData} {d : PyData} {s n : Nat} {r : Option (Nat × Nat)} : Named d → headB d = true → s + isStD d ≤ 16 → n + 1 ≤ 48 → (kidsD d).length ≤ 3 → Run (st ++ kidsD d) (s + isStD d) (n + 1) r → Run (st ++ [d]) s n r
theorem headB_name {d : PyData} (h : headB d = true) : ∃ s r, d = .tuple (.str s :: r) ∧ isStD d = if s = "step" then 1 else 0 := by
  rcases headB_cases h with rfl | ⟨ts, rfl, _⟩ | ⟨q, os, rfl, _⟩
  · exact ⟨_, _, rfl, rfl⟩
  · exact ⟨_, _, rfl, rfl⟩
  · exact ⟨_, _, rfl, rfl⟩
section
variable {K : PySem.W.Frag} {p l : Addr} {H H' : Hp}
mutual
theorem Dq.exb {xs : List V} (hp : H p = some (.lst xs)) (e : ExB p H H') : ∀ (d : PyData) (v : V), Dq K p H v d → Dq K p H' v d
  | _, _, .non => .non
  | _, _, .bl b => .bl b
  | _, _, .int i => .int i
  | _, _, .str x => .str x
  | _, _, .lst n m h hs => .lst n m (e _ _ n h) (DqAll.exb hp e _ _ hs)
  | _, _, .tup h hs => .tup (tup_lst hp e h) (DqAll.exb hp e _ _ hs)
  | _, _, .emp h => .emp (e _ _ (by rintro rfl; rw [hp] at h; cases h) h)
theorem DqAll.exb {xs : List V} (hp : H p = some (.lst xs)) (e : ExB p H H') : ∀ (ds : List PyData) (vs : List V), DqAll K p H vs ds → DqAll K p H' vs ds
  | _, _, .nil => .nil
  | _, _, .cons h hs => .cons (Dq.exb hp e _ _ h) (DqAll.exb hp e _ _ hs)
end
mutual
/-- data is at none of the new lists -/
theorem Dq.new (hl : H l = none) : ∀ (d : PyData) (v : V), Dq K p H v d → Dq K l H v d
  | _, _, .non => .non
  | _, _, .bl b => .bl b
  | _, _, .int i => .int i
  | _, _, .str x => .str x
  | _, _, .lst n m h hs => .lst (ne_of_none h hl) m h (DqAll.new hl _ _ hs)
  | _, _, .tup h hs => .tup h (DqAll.new hl _ _ hs)
  | _, _, .emp h => .emp h
theorem DqAll.new (hl : H l = none) : ∀ (ds : List PyData) (vs : List V), DqAll K p H vs ds → DqAll K l H vs ds
  | _, _, .nil => .nil
  | _, _, .cons h hs => .cons (Dq.new hl _ _ h) (DqAll.new hl _ _ hs)
end
end
theorem DqAll.snoc {K : PySem.W.Frag} {p : Addr} {H : Hp} {d : PyData} : ∀ {st : List PyData} {ys : List V}, DqAll K p H ys (st ++ [d]) → ∃ zs z, ys = zs ++ [z] ∧ DqAll K p H zs st ∧ Dq K p H z d
  | [], _, .cons h .nil => ⟨[], _, rfl, .nil, h⟩
  | _ :: st, _, .cons h hs => by
    obtain ⟨zs, z, rfl, h1, h2⟩ := DqAll.snoc hs
    exact ⟨_ :: zs, z, rfl, .cons h h1, h2⟩
def measR (K : PySem.W.Frag) (z : V) (H : Hp) : Option (Nat × Nat) → Prop
  | some (s, n) => ∃ a, z = .ref a ∧ SqT K H a [.int (s : Int), .int (n : Int)]
  | none => z = .non
def spMeas (K : PySem.W.Frag) (Ts : TbS) : Sp := fun vs H Q _ => ∃ (p : Addr) (v : V) (d : PyData) (r : Option (Nat × Nat)), vs = [v] ∧ Dq K p H v d ∧ Run [d] 0 0 r ∧ TBs Ts H ∧ ∀ z H', ExT H H' → TBs Ts H' → measR K z H' r → Q z H'
theorem n_asg2 {i j : Nat} {v : V} {D : Ends} {σ : L2.St} {H : Hp} (h : D.nx ((σ.set i (some v)).set j (some v)) H) : tAsg2 (tC v) (gName i) (gName j) D σ H := h
section
variable {K : PySem.W.Frag} {T l : Addr} {H G : Hp} {zs : List V} {z v : V} {st : List PyData} {d : PyData}
theorem poppedX {Ts : TbS} (fl : H l = none) (eb : ExT H G) (ht : TBs Ts G) (hl : G l = some (.lst (zs ++ [z]))) (hz : DqAll K l G zs st) (hq : Dq K l G z d) :
    ExT H (upd G l (.lst zs)) ∧ TBs Ts (upd G l (.lst zs)) ∧ (upd G l (.lst zs)) l = some (.lst zs) ∧ DqAll K l (upd G l (.lst zs)) zs st ∧ Dq K l (upd G l (.lst zs)) z d := by
  have e1 : ExB l G (upd G l (.lst zs)) := ExB.upd (ExB.refl l G)
  refine ⟨fun b o n e => ?_, ht.upd (ys := []) hl e1, upd_same, DqAll.exb hl e1 _ _ hz, Dq.exb hl e1 _ _ hq⟩
  rw [upd_ne (ne_of_none e fl)]
  exact eb b o n e
/-- one more, one step more if it is one -/
theorem counted {D : Ends} {s n : Int} {u : TS} (hb : headB d = true) (hq : Dq K l G z d)
    (k : ∀ G', Ex G G' → u D [some v, some (.ref l), some (.int (s + (isStD d : Nat))), some (.int n), some z] G') :
    tSeq (tIfS (tB (tCall (spIsStep K) [] E0 (tCons (tVar 4) tNil))) (tAug 2 (tC (V.int 1)) (ipI fun i j => i + j)) tNext) u D [some v, some (.ref l), some (.int s), some (.int n), some z] G := by
  obtain ⟨t, r, rfl, hs⟩ := headB_name hb
  refine s_join (fun σ G' => σ = [some v, some (.ref l), some (.int (s + (isStD (.tuple (.str t :: r)) : Nat))), some (.int n), some z] ∧ Ex G G') (fun N hN => ?_) ?_
  · refine ⟨z, rfl, l, z, t, r, rfl, hq, fun G2 e2 => ⟨_, rfl, ?_⟩⟩
    rw [hs] at hN
    by_cases h : t = "step"
    · rw [if_pos (decide_eq_true h)]
      rw [if_pos h] at hN
      exact ⟨_, rfl, _, _, rfl, rfl, hN _ _ ⟨rfl, e2⟩⟩
    · rw [if_neg (by rw [decide_eq_false h]; decide)]
      rw [if_neg h] at hN
      refine n_next (hN _ _ ⟨?_, e2⟩)
      simp
  · rintro σ G' ⟨rfl, e⟩
    exact k G' e
end
section
variable {P : Program} {w : World} {K : PySem.W.Frag} {mg : Str → Option Value} {base : Heap}
end
/-! ### data that is drawn -/
section
variable {K : PySem.W.Frag} {p : Addr} {σ : L2.St} {H H' : Hp} {te ta tb : TE} {v : V} {d : PyData} {ds : List PyData} {tt : TT}
def EvD (K : PySem.W.Frag) (p : Addr) (te : TE) (σ : L2.St) (H : Hp) (d : PyData) : Prop := EvP te σ H fun v H => Dq K p H v d
def EvDs (K : PySem.W.Frag) (p : Addr) (ta : TA) (σ : L2.St) (H : Hp) (ds : List PyData) : Prop := ∀ H1, Ex H H1 → ∀ Q : List V → Hp → Prop, (∀ vs H2, Ex H1 H2 → DqAll K p H2 vs ds → Q vs H2) → ta σ H1 Q
theorem ed_ev (h : Ev te σ H v) (hd : ∀ H, Dq K p H v d) : EvD K p te σ H d := fun H1 e Q k => h H1 e Q fun H2 e2 => k v H2 e2 (hd H2)
theorem ed_var {i : Nat} (h : σ[i]? = some (some v)) (hd : Dq K p H v d) : EvD K p (tVar i) σ H d := fun H1 e _ k => ⟨v, h, k v H1 (Ex.refl H1) (Dq.ex e _ _ hd)⟩
theorem ed_int {n : Int} : EvD K p (tC (.int n)) σ H (.int n) := ed_ev ev_c fun _ => .int n
theorem ed_neg {n : Int} : EvD K p (tUn (rU fun i => .int (-i)) (tC (.int n))) σ H (.int (-n)) := ed_ev (ev_neg ev_c) fun _ => .int _
theorem ed_bool {b : Bool} : EvD K p (tC (.bl b)) σ H (.bool b) := ed_ev ev_c fun _ => .bl b
theorem ed_none : EvD K p (tC .non) σ H .none := ed_ev ev_c fun _ => .non
theorem ed_str {x : Str} : EvD K p (tC (.str x)) σ H (.str x) := ed_ev ev_c fun _ => .str x
theorem ed_fr {b : Nat} {q : Rat} (h : EvP te σ H (Fr K b q)) : EvD K p te σ H (frd q) := fun H1 e Q k => h H1 e Q fun v H2 e2 f => k v H2 e2 f.dq
theorem eds_nil : EvDs K p tNil σ H [] := fun H1 e Q k => k [] H1 (Ex.refl H1) .nil
theorem eds_cons {tr : TA} (h : EvD K p te σ H d) (hs : EvDs K p tr σ H ds) : EvDs K p (tCons te tr) σ H (d :: ds) := fun H1 e Q k =>
  h H1 e _ fun v H2 e2 q => hs H2 (e.trans e2) _ fun vs H3 e3 qs => k _ H3 (e2.trans e3) (.cons (Dq.ex e3 _ _ q) qs)
theorem ed_tup {ta : TA} (h : EvDs K p ta σ H ds) (hl : ds.length ≤ 1000) : EvD K p (tTup ta) σ H (.tuple ds) := fun H1 e Q k =>
  h H1 e _ fun vs H2 e2 qs => ⟨Nat.le_of_lt (small1000 (by rw [qs.len]; exact hl)), fun a fa => k _ _ (e2.trans (Ex.new fa)) (.tup (SqT.of upd_same) (DqAll.ex (Ex.new fa) _ _ qs))⟩
theorem ed_lst {ta : TA} {o : HO} (hp : H p = some o) (h : EvDs K p ta σ H ds) (hl : ds.length ≤ 1000) : EvD K p (tLstN ta) σ H (.list ds) := fun H1 e Q k =>
  h H1 e _ fun vs H2 e2 qs => ⟨Nat.le_of_lt (small1000 (by rw [qs.len]; exact hl)), fun a fa fm => k _ _ (e2.trans (Ex.new fa)) (.lst (ne_of_none (e2 _ _ (e _ _ hp)) fa).symm fm upd_same (DqAll.ex (Ex.new fa) _ _ qs))⟩
end
def tI (n : Int) : TE := tC (.int n)
def tN (n : Int) : TE := tUn (rU fun i => .int (-i)) (tC (.int n))
def tP (a b : TE) : TE := tTup (tCons a (tCons b tNil))
section
variable {K : PySem.W.Frag} {p : Addr} {σ : L2.St} {H : Hp} {a b : TE} {d e : PyData} {v : V} {q r : Rat}
theorem ed_I {n : Int} : EvD K p (tI n) σ H (.int n) := ed_int
theorem ed_N {n : Int} : EvD K p (tN n) σ H (.int (-n)) := ed_neg
theorem ed_P (h : EvD K p a σ H d) (g : EvD K p b σ H e) : EvD K p (tP a b) σ H (.tuple [d, e]) := ed_tup (eds_cons h (eds_cons g eds_nil)) (by show 2 ≤ 1000; decide)
def LstD (K : PySem.W.Frag) (p : Addr) (ds : List PyData) (v : V) (H : Hp) : Prop := ∃ (l : Addr) (vs : List V), v = .ref l ∧ l ≠ p ∧ l ≠ sysModules ∧ H l = some (.lst vs) ∧ DqAll K p H vs ds
def LstD0 (K : PySem.W.Frag) (p : Addr) (ds : List PyData) (v : V) (H : Hp) : Prop := ∃ (l : Addr) (vs : List V), v = .ref l ∧ l ≠ p ∧ H l = some (.lst vs) ∧ DqAll K p H vs ds
theorem LstD.to0 {ds : List PyData} (h : LstD K p ds v H) : LstD0 K p ds v H := by
  obtain ⟨l, vs, rfl, n, m, h, q⟩ := h
  exact ⟨l, vs, rfl, n, h, q⟩
theorem el_lst {tm : TA} {ds : List PyData} {o : HO} (hh : H p = some o) (hm : EvDs K p tm σ H ds) (hl : ds.length ≤ 900) : EvP (tLstN tm) σ H (LstD K p ds) := fun H1 e Q k =>
  hm H1 e _ fun vs H2 e2 qs => ⟨Nat.le_of_lt (small1000 (by rw [qs.len]; omega)), fun l fl fm => k _ _ (e2.trans (Ex.new fl)) ⟨l, vs, rfl, (ne_of_none (e2 _ _ (e _ _ hh)) fl).symm, fm, upd_same, DqAll.ex (Ex.new fl) _ _ qs⟩⟩
end
/-! flat data stays where a list changes -/
mutual
def flatN (B : Nat) : PyData → Bool
  | .list _ => false
  | .dict _ => false
  | .tuple ds => flatNA B ds
  | .int i => decide (i.natAbs < 2 ^ B)
  | _ => true
def flatNA (B : Nat) : List PyData → Bool
  | [] => true
  | d :: ds => flatN B d && flatNA B ds
end
abbrev flatD (d : PyData) : Bool := flatN 39 d
abbrev flatDA (ds : List PyData) : Bool := flatNA 39 ds
def tupd (H : Hp) (a : Addr) : Prop := (∀ xs, H a ≠ some (.tup xs)) ∧ ∀ xs o, H a ≠ some (.frz o (.tup xs))
theorem tupd_l {H : Hp} {a : Addr} {xs : List V} (h : H a = some (.lst xs)) : tupd H a := ⟨fun ys => by rw [h]; exact (nofun), fun ys o => by rw [h]; exact (nofun)⟩
theorem tupd_k {H : Hp} {a : Addr} {xs : List (Key × V)} (h : H a = some (.dK xs)) : tupd H a := ⟨fun ys => by rw [h]; exact (nofun), fun ys o => by rw [h]; exact (nofun)⟩
theorem tupd_t {H : Hp} {a : Addr} (h : GxR.TabG H a) : tupd H a := by
  obtain ⟨ps, h, _⟩ := h
  exact ⟨fun ys => by rw [h]; exact (nofun), fun ys o => by rw [h]; exact (nofun)⟩
theorem sqt_tb {K : PySem.W.Frag} {H H' : Hp} {p c : Addr} {ys : List V} (hp : tupd H p) (e : ExB p H H') (h : SqT K H c ys) : SqT K H' c ys := by
  rcases h with (h | ⟨o, h⟩) | h
  · exact .inl (.inl (e c _ (by rintro rfl; exact hp.1 ys h) h))
  · exact .inl (.inr ⟨o, e c _ (by rintro rfl; exact hp.2 ys o h) h⟩)
  · exact .inr h
theorem Fr.tb {K : PySem.W.Frag} {H H' : Hp} {p : Addr} {b : Nat} {q : Rat} {z : V} (hp : tupd H p) (e : ExB p H H') (h : Fr K b q z H) : Fr K b q z H' := by
  obtain ⟨c, rfl, h, x⟩ := h
  exact ⟨c, rfl, sqt_tb hp e h, x⟩
mutual
theorem Dq.fl {B : Nat} {K : PySem.W.Frag} {p D : Addr} {H H' : Hp} (hD : tupd H D) (e : ExB D H H') : ∀ (d : PyData) (v : V), flatN B d = true → Dq K p H v d → Dq K p H' v d
  | _, _, _, .non => .non
  | _, _, _, .bl b => .bl b
  | _, _, _, .int i => .int i
  | _, _, _, .str x => .str x
  | _, _, f, .lst n m h hs => by simp [flatN] at f
  | _, _, f, .tup h hs => .tup (sqt_tb hD e h) (DqAll.fl hD e _ _ (by simpa [flatN] using f) hs)
  | _, _, f, .emp h => by simp [flatN] at f
theorem DqAll.fl {B : Nat} {K : PySem.W.Frag} {p D : Addr} {H H' : Hp} (hD : tupd H D) (e : ExB D H H') : ∀ (ds : List PyData) (vs : List V), flatNA B ds = true → DqAll K p H vs ds → DqAll K p H' vs ds
  | _, _, _, .nil => .nil
  | _, _, f, .cons h hs => by
    simp only [flatNA, Bool.and_eq_true] at f
    exact .cons (Dq.fl hD e _ _ f.1 h) (DqAll.fl hD e _ _ f.2 hs)
end
mutual
/-- flat data speaks of no list -/
theorem Dq.any {B : Nat} {K : PySem.W.Frag} {p q : Addr} {H : Hp} : ∀ (d : PyData) (v : V), flatN B d = true → Dq K p H v d → Dq K q H v d
  | _, _, _, .non => .non
  | _, _, _, .bl b => .bl b
  | _, _, _, .int i => .int i
  | _, _, _, .str x => .str x
  | _, _, f, .lst n m h hs => by simp [flatN] at f
  | _, _, f, .tup h hs => .tup h (DqAll.any _ _ (by simpa [flatN] using f) hs)
  | _, _, f, .emp h => by simp [flatN] at f
theorem DqAll.any {B : Nat} {K : PySem.W.Frag} {p q : Addr} {H : Hp} : ∀ (ds : List PyData) (vs : List V), flatNA B ds = true → DqAll K p H vs ds → DqAll K q H vs ds
  | _, _, _, .nil => .nil
  | _, _, f, .cons h hs => by
    simp only [flatNA, Bool.and_eq_true] at f
    exact .cons (Dq.any _ _ f.1 h) (DqAll.any _ _ f.2 hs)
end
theorem flat_frd {B b : Nat} {q : Rat} (h : Bd b q) (hb : b ≤ B) : flatN B (frd q) = true := by
  have h1 := h.mono hb
  have h2 := bd_den h1
  simp only [frd, flatN, flatNA, Bool.and_true, Bool.and_eq_true, decide_eq_true_eq]
  exact ⟨h1.1, h2⟩
theorem flatDA_of {B : Nat} : ∀ {ds : List PyData}, (∀ d ∈ ds, flatN B d = true) → flatNA B ds = true
  | [], _ => rfl
  | d :: ds, h => by
    simp only [flatNA, Bool.and_eq_true]
    exact ⟨h d List.mem_cons_self, flatDA_of fun x hx => h x (List.mem_cons_of_mem _ hx)⟩
mutual
theorem flat_up {B B' : Nat} (l : B ≤ B') : ∀ {d : PyData}, flatN B d = true → flatN B' d = true
  | .none, _ => rfl
  | .bool _, _ => rfl
  | .str _, _ => rfl
  | .int i, f => by
    simp only [flatN, decide_eq_true_eq] at f ⊢
    exact Nat.lt_of_lt_of_le f (Nat.pow_le_pow_right (by decide) l)
  | .tuple ds, f => by
    simp only [flatN] at f ⊢
    exact flatA_up l f
  | .list ds, f => by simp [flatN] at f
  | .dict ds, f => by simp [flatN] at f
theorem flatA_up {B B' : Nat} (l : B ≤ B') : ∀ {ds : List PyData}, flatNA B ds = true → flatNA B' ds = true
  | [], _ => rfl
  | d :: ds, f => by
    simp only [flatNA, Bool.and_eq_true] at f ⊢
    exact ⟨flat_up l f.1, flatA_up l f.2⟩
end
theorem Tape.tupd {H : Hp} {p : Addr} (h : Tape H p) : tupd H p := by
  obtain ⟨d, m, h, _⟩ := h
  exact tupd_k h
/-! ### the law's own pays and weights -/
def dWt : List PyData := [.tuple [.int 1, .int 2], .tuple [.int 1, .int 2], .tuple [.int 1, .int 3], .tuple [.int 1, .int 1], .tuple [.int 1, .int 4], .tuple [.int 2, .int 3], .tuple [.int 2, .int 1], .tuple [.int 3, .int 2], .tuple [.int 1, .int 1], .tuple [.int 5, .int 7]]
theorem good_wt : ∀ d ∈ dWt, (posB d && flatD d) = true := by decide +kernel
section
variable {K : PySem.W.Frag} {p : Addr} {σ : L2.St} {H : Hp}
theorem rd_oneD {E : XK} {tm : TA} {ds : List PyData} {Q : VK} (hm : EvDs K p tm σ H ds) (ht : Tape H p) (h0 : σ[0]? = some (some (.ref p))) (l0 : 0 < ds.length) (l1 : ds.length ≤ 900) (fl : ∀ d ∈ ds, flatD d = true)
    (k : ∀ v d H', d ∈ ds → ExB p H H' → Tape H' p → Dq K p H' v d → Q v H') : tCall (spOneOf K) [] E (tCons (tVar 0) (tCons (tLst tm) tNil)) σ H Q := by
  refine ⟨_, h0, ?_⟩
  refine hm H (Ex.refl H) _ fun vs H1 e1 qs => ?_
  have vl := qs.len
  refine ⟨Nat.le_of_lt (small1000 (by omega)), fun l fl0 => ?_⟩
  have x1 := Ex.new (o := .lst vs) fl0
  have ht1 := ht.ex e1
  have nlp : l ≠ p := by
    obtain ⟨d, m, h, _⟩ := ht1
    exact (ne_of_none h fl0).symm
  refine ⟨p, l, vs, rfl, ht1.ex x1, upd_same, nlp, by omega, by omega, fun i x H2 hx eb ht2 => ?_⟩
  have il : i < ds.length := by
    have := (List.getElem?_eq_some_iff.mp hx).1
    omega
  obtain ⟨x', hx', qd⟩ := (DqAll.ex x1 _ _ qs).get (List.getElem?_eq_getElem il)
  rw [hx] at hx'
  cases hx'
  exact k x _ H2 (List.getElem_mem il) ((Ex.b (e1.trans x1)).trans eb) ht2 (Dq.fl (ht1.ex x1).tupd eb _ _ (fl _ (List.getElem_mem il)) qd)
end
section
variable {P : Program} {w : World} {K : PySem.W.Frag} {mg : Str → Option Value} {base : Heap}
def spDrwF (K : PySem.W.Frag) (f : PyData → Bool) : Sp := fun vs H Q _ => ∃ p : Addr, vs = [.ref p] ∧ Tape H p ∧ ∀ v d H', ExB p H H' → Tape H' p → Dq K p H' v d → f d = true → flatD d = true → Q v H'
theorem ok__law_drawn_weight (T : Txt K mg) : FnOk P w K mg base CX0 3 T.d__law_drawn_weight.a T.d__law_drawn_weight.fd ["_law_tape_here"] (spDrwF K posB) := by
  refine T.d__law_drawn_weight.F.ok sc__law_drawn_weight (fun vs H Q E h => ?_) (fun cdv A outer s H vs Q E hr h => ?_)
  · obtain ⟨p, rfl, _⟩ := h
    rfl
  · obtain ⟨p, rfl, ht, k⟩ := h
    refine ⟨_, (pss_one (ps_ret (pe_call (ok__law_one_of T) (hr.mono (by decide)) (by rfl) T.d__law_one_of.g T.d__law_one_of.F.kp T.d__law_one_of.b .nil pass0 (pa_cons (pv 0) (pa_cons (pe_lst (pa_cons (pe_tup (pa_cons pe_int (pa_cons pe_int pa_nil))) (pa_cons (pe_tup (pa_cons pe_int (pa_cons pe_int pa_nil))) (pa_cons (pe_tup (pa_cons pe_int (pa_cons pe_int pa_nil))) (pa_cons (pe_tup (pa_cons pe_int (pa_cons pe_int pa_nil))) (pa_cons (pe_tup (pa_cons pe_int (pa_cons pe_int pa_nil))) (pa_cons (pe_tup (pa_cons pe_int (pa_cons pe_int pa_nil))) (pa_cons (pe_tup (pa_cons pe_int (pa_cons pe_int pa_nil))) (pa_cons (pe_tup (pa_cons pe_int (pa_cons pe_int pa_nil))) (pa_cons (pe_tup (pa_cons pe_int (pa_cons pe_int pa_nil))) (pa_cons (pe_tup (pa_cons pe_int (pa_cons pe_int pa_nil))) pa_nil))))))))))) pa_nil))))), ?_⟩
    have W : ∀ {n m : Int} {G : Hp}, EvD K p (tP (tI n) (tI m)) [some (.ref p)] G (.tuple [.int n, .int m]) := ed_P ed_I ed_I
    refine (show tCall (spOneOf K) _ _ _ _ H _ from ?_)
    refine rd_oneD (K := K) (ds := dWt) (eds_cons W (eds_cons W (eds_cons W (eds_cons W (eds_cons W (eds_cons W (eds_cons W (eds_cons W (eds_cons W (eds_cons W eds_nil)))))))))) ht rfl (by decide) (by decide) (fun d hd => ?_) fun v d H2 hd eb ht2 q => ?_
    · have := good_wt d hd
      simp only [Bool.and_eq_true] at this
      exact this.2
    · have := good_wt d hd
      simp only [Bool.and_eq_true] at this
      exact k v d H2 eb ht2 q this.1 this.2
end
/-! ### drawn pays -/
def dFar : List PyData := [.int 3, .int 5, .int 5, .int 9, .int (10 ^ (11 : Int).toNat)]
def farB : PyData → Bool
  | .int n => decide (0 < n) && decide (n ≤ 100000000000)
  | _ => false
theorem good_far : ∀ d ∈ dFar, (farB d && flatD d) = true := by decide +kernel
theorem good_lit : ∀ d ∈ ([.int 1, .int 2, .int 3] : List PyData), (farB d && flatD d) = true := by decide +kernel
theorem far_int {d : PyData} (h : farB d = true) : ∃ n : Int, d = .int n ∧ 0 < n ∧ n ≤ 100000000000 := by
  cases d with
  | int n =>
    have h' : (decide (0 < n) && decide (n ≤ 100000000000)) = true := h
    simp only [Bool.and_eq_true, decide_eq_true_eq] at h'
    exact ⟨n, rfl, h'⟩
  | _ => cases h
section
variable {P : Program} {w : World} {K : PySem.W.Frag} {mg : Str → Option Value} {base : Heap}
theorem ok__law_drawn_pay (T : Txt K mg) : FnOk P w K mg base CX0 3 T.d__law_drawn_pay.a T.d__law_drawn_pay.fd ["_law_tape_here"] (spDrwF K frB) := by
  refine T.d__law_drawn_pay.F.ok sc__law_drawn_pay (fun vs H Q E h => ?_) (fun cdv A outer s H vs Q E hr h => ?_)
  · obtain ⟨p, rfl, _⟩ := h
    rfl
  · obtain ⟨p, rfl, ht, k⟩ := h
    refine ⟨_, (pss_cons (ps_set (i := 1) sc__law_drawn_pay.nd rfl (Or.inl rfl) (pe_call (ok__law_one_of T) (hr.mono (by decide)) (by rfl) T.d__law_one_of.g T.d__law_one_of.F.kp T.d__law_one_of.b .nil pass0 (pa_cons (pv 0) (pa_cons (pe_lst (pa_cons pe_int (pa_cons pe_int (pa_cons pe_int (pa_cons pe_int (pa_cons (pe_op op_pow pe_int pe_int) pa_nil)))))) pa_nil))))
      (pss_one (ps_ret (pe_call (ok__law_frac T) (hr.mono (by decide)) (by rfl) T.d__law_frac.g T.d__law_frac.F.kp T.d__law_frac.b .nil pass0 (pa_cons (pe_op op_sub (pe_call (ok__law_pick T) (hr.mono (by decide)) (by rfl) T.d__law_pick.g T.d__law_pick.F.kp T.d__law_pick.b .nil pass0 (pa_cons (pv 0) (pa_cons (pv 1) pa_nil))) (pe_call (ok__law_pick T) (hr.mono (by decide)) (by rfl) T.d__law_pick.g T.d__law_pick.F.kp T.d__law_pick.b .nil pass0 (pa_cons (pv 0) (pa_cons (pv 1) pa_nil)))) (pa_cons (pe_op op_add pe_int (pe_call (ok__law_pick T) (hr.mono (by decide)) (by rfl) T.d__law_pick.g T.d__law_pick.F.kp T.d__law_pick.b .nil pass0 (pa_cons (pv 0) (pa_cons (pe_call (ok__law_one_of T) (hr.mono (by decide)) (by rfl) T.d__law_one_of.g T.d__law_one_of.F.kp T.d__law_one_of.b .nil pass0 (pa_cons (pv 0) (pa_cons (pe_lst (pa_cons pe_int (pa_cons pe_int (pa_cons pe_int pa_nil)))) pa_nil))) pa_nil)))) pa_nil)))))), ?_⟩
    have e11 : ∀ {σ : L2.St} {G : Hp}, EvD K p (tOp (rI CPow fun i j => .int (i ^ j.toNat)) (tC (.int 10)) (tC (.int 11))) σ G (.int (10 ^ (11 : Int).toNat)) := fun H1 e Q k => ⟨10, 11, rfl, rfl, ⟨by decide, by decide, by decide⟩, k _ H1 (Ex.refl H1) (.int _)⟩
    refine n_seq ?_
    refine (show tCall (spOneOf K) _ _ _ _ H _ from ?_)
    refine rd_oneD (K := K) (ds := dFar) (eds_cons ed_I (eds_cons ed_I (eds_cons ed_I (eds_cons ed_I (eds_cons e11 eds_nil))))) ht rfl (by decide) (by decide) (fun d hd => ?_) fun v d H1 hd eb1 ht1 q => ?_
    · have := good_far d hd
      simp only [Bool.and_eq_true] at this
      exact this.2
    have g := good_far d hd
    simp only [Bool.and_eq_true] at g
    obtain ⟨m, rfl, m0, m1⟩ := far_int g.1
    cases q
    dsimp only
    refine ⟨_, rfl, _, rfl, p, m, rfl, ht1, m0, m1, fun r1 H2 r10 r11 eb2 ht2 => ⟨_, rfl, _, rfl, p, m, rfl, ht2, m0, m1, fun r2 H3 r20 r21 eb3 ht3 => ⟨r1, r2, rfl, rfl, _, rfl, ?_⟩⟩⟩
    refine (show tCall (spOneOf K) _ _ _ _ H3 _ from ?_)
    refine rd_oneD (K := K) (ds := [.int 1, .int 2, .int 3]) (eds_cons ed_I (eds_cons ed_I (eds_cons ed_I eds_nil))) ht3 rfl (by decide) (by decide) (fun d hd => ?_) fun v d H4 hd eb4 ht4 q => ?_
    · have := good_lit d hd
      simp only [Bool.and_eq_true] at this
      exact this.2
    have g4 := good_lit d hd
    simp only [Bool.and_eq_true] at g4
    obtain ⟨n, rfl, n0, n1⟩ := far_int g4.1
    cases q
    refine ⟨p, n, rfl, ht4, n0, n1, fun r3 H5 r30 r31 eb5 ht5 => ⟨1, r3, rfl, rfl, ?_⟩⟩
    have e40 : (2 : Nat) ^ 39 = 549755813888 := by decide
    refine ⟨r1 - r2, 1 + r3, 39, rfl, by omega, by omega, by omega, by decide, fun z H6 e6 f => ?_⟩
    exact k z _ H6 ((((eb1.trans eb2).trans eb3).trans (eb4.trans eb5)).trans (Ex.b e6)) (ht5.ex e6) f.dq (frB_frd _) (flat_frd f.bd (by decide))
end
/-! ### what stands right within, the law's own -/
section
variable {P : Program} {w : World} {K : PySem.W.Frag} {mg : Str → Option Value} {base : Heap}
theorem ok__law_within (T : Txt K mg) : FnOk P w K mg base CX0 1 T.d__law_within.a T.d__law_within.fd ["_law_term"] (spKids K) := by
  refine T.d__law_within.F.ok sc__law_within (fun vs H Q E h => ?_) (fun cdv A outer s H vs Q E hr h => ?_)
  · obtain ⟨p, v, d, rfl, _⟩ := h
    rfl
  · obtain ⟨p, v, d, rfl, hd, hb, k⟩ := h
    refine ⟨_, (pss_cons (ps_if (pt_cmpR op_eq (pe_ix ix_tup (pv 0) pe_int (fun _ _ => rfl)) pe_str (nomark _)) (pss_one (ps_ret (pe_lc (own := [("_law_one", 1)]) (g := gName 1) (te := tOp (rIxT K) (tVar 1) (tC (.int 1))) (tt := tYes) rfl sc__law_within.nd (pi_tup (pe_ix ix_tup (pv 0) pe_int (fun _ _ => rfl))) (blkOk_by (own := [("_law_one", 1)]) (N := n__law_within) (sc := defScope s__law_within) (by decide +kernel)) (fun _ _ _ _ _ => pg_name (i := 1) sc__law_within.nd rfl (Or.inl rfl)) (fun _ _ _ _ _ => pts_nil) (fun _ _ _ _ _ => (pe_ix ix_tup (pv 1) pe_int (fun _ _ => rfl)))))) pss_nil)
      (pss_one (ps_ret (pe_ifExp (pt_cmpR op_eq (pe_ix ix_tup (pv 0) pe_int (fun _ _ => rfl)) pe_str (nomark _)) (pe_callTy call_list_of (by rfl) T.n_list (by decide +kernel) (pa_cons (pe_ix ix_tup (pv 0) pe_int (fun _ _ => rfl)) pa_nil)) (pe_lst pa_nil))))), ?_⟩
    rcases headB_cases hb with rfl | ⟨ts, rfl, l2, l3⟩ | ⟨q, os, rfl, hq, hl, ho⟩
    · refine s_if (b := false) (et_is (et_test (ev_name (t := "step") rfl hd)) rfl) (fun z => nomatch z) fun _ H1 e1 => ?_
      have hd1 := Dq.ex e1 _ _ hd
      refine n_next ?_
      refine (et_is (b := false) (et_test (ev_name (t := "all") rfl hd1)) rfl) H1 (Ex.refl _) _ fun H2 e2 => ?_
      refine iteF ?_
      refine ⟨by show 0 ≤ sizeLine; decide, fun l fl => ?_⟩
      exact k l [] _ ((e1.trans e2).trans (Ex.new fl)) (fresh_back (e1.trans e2) fl) upd_same .nil
    · refine s_if (b := false) (et_is (et_test (ev_name (t := "step") rfl hd)) rfl) (fun z => nomatch z) fun _ H1 e1 => ?_
      have hd1 := Dq.ex e1 _ _ hd
      refine n_next ?_
      refine (et_is (b := true) (et_test (ev_name (t := "all") rfl hd1)) rfl) H1 (Ex.refl _) _ fun H2 e2 => ?_
      refine iteT ?_
      refine ed_ix (K := K) (p := p) (j := 1) rfl (Dq.ex e2 _ _ hd1) rfl H2 (Ex.refl _) _ fun x H3 e3 q3 => ?_
      obtain ⟨a, xs, rfl, hS, hA⟩ := q3.seq
      refine ⟨a, xs, rfl, .inr hS, fun l fl => ?_⟩
      exact k l xs _ (((e1.trans e2).trans e3).trans (Ex.new fl)) (fresh_back ((e1.trans e2).trans e3) fl) upd_same (DqAll.ex (Ex.new fl) _ _ hA)
    · refine s_if (b := true) (et_is (et_test (ev_name (t := "step") rfl hd)) rfl) (fun _ H1 e1 => ?_) fun z => nomatch z
      have hd1 := Dq.ex e1 _ _ hd
      refine ed_ix (K := K) (p := p) (j := 2) rfl hd1 rfl H1 (Ex.refl _) _ fun x H2 e2 q2 => ?_
      obtain ⟨a, xs, rfl, hS, hA⟩ := q2.seq
      refine ⟨a, rfl, ⟨_, hS⟩, fun D nD => ?_⟩
      refine lc_tup (K := K) (a := a) (xs := xs) (fun j G => Ex H2 G ∧ ∃ ys, G D = some (.lst ys) ∧ ys.length = j ∧ DqAll K p H2 ys ((os.take j).map sndD)) ⟨Ex.new nD, [], upd_same, rfl, .nil⟩ (fun i G _ h => ex_t h.1 hS) ?_ ?_
      · rintro i y G hy ⟨ex, ys, hys, hyl, hq2⟩
        have il : i < xs.length := (List.getElem?_eq_some_iff.mp hy).1
        have iol : i < os.length := by rw [← hA.len]; exact il
        have eo := List.getElem?_eq_getElem iol
        obtain ⟨y', hy', qy⟩ := hA.get eo
        rw [hy] at hy'
        cases hy'
        obtain ⟨wd, dd, ed⟩ := outB_two (ho _ (List.getElem_mem iol))
        rw [ed] at qy eo
        obtain ⟨b, zs, rfl, hS2, hA2⟩ := qy.seq
        obtain ⟨z1, z2, rfl⟩ : ∃ z1 z2, zs = [z1, z2] := by
          have := hA2.len
          match zs, this with
          | [z1, z2], _ => exact ⟨z1, z2, rfl⟩
        have qz : Dq K p H2 z2 dd := by
          obtain ⟨z, e, q⟩ := hA2.get (j := 1) (dj := dd) rfl
          cases e
          exact q
        refine ⟨rfl, ?_⟩
        refine yes_of ?_
        rw [if_pos rfl]
        refine ⟨_, rfl, b, _, 1, _, rfl, rfl, ex_t ex hS2, rfl, ?_⟩
        refine ⟨_, hys, small1000 (by omega), Ex.mut ex nD, ys ++ [z2], upd_same, by simp [hyl], ?_⟩
        rw [List.take_succ, eo, List.map_append]
        exact hq2.append (.cons qz .nil)
      · rintro G ⟨ex, ys, hys, hyl, hq2⟩
        refine k D ys G ((e1.trans e2).trans ex) (fresh_back (e1.trans e2) nD) hys (DqAll.ex ex _ _ ?_)
        rw [hA.len, List.take_length] at hq2
        exact hq2
end
/-! ### terms by levels; the law's counts -/
def prodN : List Nat → Nat
  | [] => 1
  | n :: ns => n * prodN ns
mutual
/-- a drawn term: levels, data, steps, parts, size -/
inductive Tm : Nat → PyData → Nat → Nat → Nat → Prop
  | e {k : Nat} : Tm (k + 1) (.tuple [.str "end"]) 0 1 1
  | al {k S N : Nat} {ts : List PyData} {ns : List Nat} : TmA k ts S N ns → 2 ≤ ts.length → ts.length ≤ 3 → Tm (k + 1) (.tuple [.str "all", .tuple ts]) S (N + 1) (prodN ns)
  | st {k S N : Nat} {q : PyData} {os : List PyData} {ns : List Nat} : frB q = true → os.length ≤ 3 → (∀ o ∈ os, outB o = true) → TmA k (os.map sndD) S N ns → Tm (k + 1) (.tuple [.str "step", q, .tuple os]) (S + 1) (N + 1) (1 + ns.sum)
inductive TmA : Nat → List PyData → Nat → Nat → List Nat → Prop
  | nil {k : Nat} : TmA k [] 0 0 []
  | cons {k S N S' N' n : Nat} {d : PyData} {ds : List PyData} {ns : List Nat} : Tm k d S N n → TmA k ds S' N' ns → TmA k (d :: ds) (S + S') (N + N') (n :: ns)
end
theorem TmA.snoc : ∀ {k S N S' N' n : Nat} {d : PyData} {ds : List PyData} {ns : List Nat}, TmA k ds S N ns → Tm k d S' N' n → TmA k (ds ++ [d]) (S + S') (N + N') (ns ++ [n])
  | _, _, _, S', N', _, _, _, _, .nil, h => by
    have := TmA.cons h .nil
    rwa [Nat.add_comm S' 0, Nat.add_comm N' 0] at this
  | _, _, _, _, _, _, _, _, _, .cons (S := a) (N := b) (S' := c) (N' := e) h hs, g => by
    have := TmA.cons h (hs.snoc g)
    rw [← Nat.add_assoc, ← Nat.add_assoc] at this
    exact this
theorem TmA.cnts {k S N : Nat} {ds : List PyData} {ns : List Nat} (h : TmA k ds S N ns) : ∃ Ps : List (Nat × Nat), ds.length = Ps.length ∧ (Ps.map Prod.fst).sum = S ∧ (Ps.map Prod.snd).sum = N ∧ ∀ (i : Nat) (d : PyData), ds[i]? = some d → ∃ s m n', Ps[i]? = some (s, m) ∧ Tm k d s m n' := by
  induction ds generalizing S N ns with
  | nil =>
    cases h
    exact ⟨[], rfl, rfl, rfl, fun i d e => by simp at e⟩
  | cons d ds ih =>
    cases h with
    | @cons _ s m _ _ n _ _ _ h hs =>
      obtain ⟨Ms, h1, h2, h2', h3⟩ := ih hs
      refine ⟨(s, m) :: Ms, congrArg Nat.succ h1, by rw [List.map_cons, List.sum_cons, h2], by rw [List.map_cons, List.sum_cons, h2'], fun i e he => ?_⟩
      cases i with
      | zero =>
        simp only [List.getElem?_cons_zero, Option.some.injEq] at he
        subst he
        exact ⟨s, m, n, rfl, h⟩
      | succ i =>
        simp only [List.getElem?_cons_succ] at he ⊢
        exact h3 i e he
/-- what a term holds -/
theorem Tm.kids {k S N n : Nat} {d : PyData} (h : Tm (k + 1) d S N n) : headB d = true ∧ (kidsD d).length ≤ 3 ∧ ∃ (s : Str) (r : List PyData) (S' N' : Nat) (ns : List Nat), d = .tuple (.str s :: r) ∧ TmA k (kidsD d) S' N' ns ∧ S = (if s = "step" then 1 else 0) + S' ∧ N = 1 + N' := by
  cases h with
  | e => exact ⟨by decide +kernel, by decide, "end", [], 0, 0, [], rfl, .nil, by decide +kernel, rfl⟩
  | @al _ _ N' ts ns ta l2 l3 =>
    refine ⟨?_, l3, "all", [.tuple ts], S, N', ns, rfl, ta, ?_, Nat.add_comm _ _⟩
    · show (decide (2 ≤ ts.length) && decide (ts.length ≤ 3)) = true
      rw [decide_eq_true l2, decide_eq_true l3]
      rfl
    · have : ¬ (Str.ofString "all") = Str.ofString "step" := by decide +kernel
      rw [if_neg this, Nat.zero_add]
  | @st _ S' N' q os ns fq ol ob ta =>
    refine ⟨?_, ?_, "step", [q, .tuple os], S', N', ns, rfl, ta, ?_, Nat.add_comm _ _⟩
    · show (frB q && (decide (os.length ≤ 3) && os.all outB)) = true
      rw [fq, decide_eq_true ol, List.all_eq_true.mpr ob]
      rfl
    · show (os.map sndD).length ≤ 3
      rw [List.length_map]
      exact ol
    · rw [if_pos rfl, Nat.add_comm]
def intsN (ns : List Nat) : List V := ns.map fun (n : Nat) => V.int n
def CntL (K : PySem.W.Frag) (G : Hp) (zs : List V) (Ps : List (Nat × Nat)) : Prop := zs.length = Ps.length ∧ ∀ (j : Nat) (z : V) (s m : Nat), zs[j]? = some z → Ps[j]? = some (s, m) → ∃ t, z = .ref t ∧ SqT K G t [.int (s : Nat), .int (m : Nat)]
theorem sum_cast : ∀ ns : List Nat, (ns.map fun (n : Nat) => (n : Int)).sum = ((ns.sum : Nat) : Int)
  | [] => rfl
  | n :: ns => by rw [List.map_cons, List.sum_cons, List.sum_cons, sum_cast ns, Int.natCast_add]
theorem ev_sumC {K : PySem.W.Frag} {G : Hp} {v : V} {y : Option V} {D : Addr} {zs : List V} {Ps : List (Nat × Nat)} (hz : G D = some (.lst zs)) (hc : CntL K G zs Ps) (l3 : Ps.length ≤ 900) (ix : Nat) (f : Nat × Nat → Nat) (hf : ∀ s m : Nat, ([V.int (s : Nat), V.int (m : Nat)] : List V)[ix]? = some (.int (f (s, m) : Nat))) :
    Ev (tCB (rSum K) (tCons (tLc (iList K (tVar 1)) (gName 2) tYes (tOp (rIxT K) (tVar 2) (tC (.int (ix : Nat)))) [2]) tNil)) [some v, some (.ref D), y] G (.int (((Ps.map f).sum : Nat) : Int)) := fun H1 e Q k => by
  refine ⟨_, rfl, D, rfl, ⟨_, SqL.of (e _ _ hz)⟩, fun D2 nD2 => ?_⟩
  refine lc_list (K := K) (a := D) (xs := zs) (fun i G' => Ex H1 G' ∧ G' D2 = some (.lst (intsN ((Ps.take i).map f)))) ⟨Ex.new nD2, upd_same⟩ (fun i G' _ h => SqL.of (h.1 _ _ (e _ _ hz))) ?_ ?_
  · rintro i x G1 hx ⟨ex, h1⟩
    have il : i < zs.length := (List.getElem?_eq_some_iff.mp hx).1
    have lc := hc.1
    obtain ⟨P, hP⟩ : ∃ P, Ps[i]? = some P := ⟨_, List.getElem?_eq_getElem (by omega)⟩
    obtain ⟨s, m⟩ := P
    obtain ⟨t, rfl, hS⟩ := hc.2 i x s m hx hP
    refine ⟨rfl, ?_⟩
    refine yes_of ?_
    rw [if_pos rfl]
    refine ⟨_, rfl, t, _, (ix : Nat), _, rfl, rfl, ex_t (e.trans ex) hS, atI_nat (hf s m), ?_⟩
    refine ⟨_, h1, small1000 (by unfold intsN; rw [List.length_map, List.length_map, List.length_take]; omega), Ex.mut ex nD2, ?_⟩
    rw [upd_same, List.take_succ, hP, List.map_append]
    unfold intsN
    rw [List.map_append]
    rfl
  · rintro G1 ⟨ex, h1⟩
    rw [hc.1, List.take_length] at h1
    refine ⟨D2, (Ps.map f).map fun (n : Nat) => (n : Int), rfl, ?_, ?_⟩
    · rw [List.map_map]
      exact SqL.of h1
    · rw [sum_cast]
      exact k G1 ex
def spCnt (K : PySem.W.Frag) (k : Nat) : Sp := fun vs H Q _ => ∃ (p : Addr) (v : V) (d : PyData) (S N n : Nat), vs = [v] ∧ Dq K p H v d ∧ Tm k d S N n ∧ ∀ t H', Ex H H' → SqT K H' t [.int (S : Nat), .int (N : Nat)] → Q (.ref t) H'
section
variable {P : Program} {w : World} {K : PySem.W.Frag} {mg : Str → Option Value} {base : Heap}
theorem ok__law_counts (T : Txt K mg) : ∀ k, FnOk P w K mg base CX0 (2 + k) T.d__law_counts.a T.d__law_counts.fd ["_law_term"] (spCnt K k) := by
  intro k
  induction k with
  | zero =>
    refine (T.d__law_counts.F.ok (k := 1) sc__law_counts (fun vs H Q E h => ?_) fun cdv A outer s H vs Q E hr h => ?_)
    · obtain ⟨p, v, d, S, N, n, rfl, _⟩ := h
      rfl
    · obtain ⟨p, v, d, S, N, n, rfl, _, hz, _⟩ := h
      cases hz
  | succ k ih =>
    refine (T.d__law_counts.F.ok (k := 2 + k) sc__law_counts (fun vs H Q E h => ?_) fun cdv A outer s H vs Q E hr h => ?_)
    · obtain ⟨p, v, d, S, N, n, rfl, _⟩ := h
      rfl
    · obtain ⟨p, v, d, S, N, n, rfl, hd, hz, kk⟩ := h
      refine ⟨_, (pss_cons (ps_setLc (i := 1) (own := [("_law_one", 2)]) (g := gName 2) (tt := tYes) rfl sc__law_counts.nd rfl rfl (sw_true rfl rfl rfl (by decide +kernel)) (pi_list (pe_call (ok__law_within T) (hr.mono (by omega)) (by rfl) T.d__law_within.g T.d__law_within.F.kp T.d__law_within.b .nil pass0 (pa_cons (pv 0) pa_nil))) (blkOk_by (own := [("_law_one", 2)]) (N := n__law_counts) (sc := defScope s__law_counts) (by decide +kernel)) (fun _ _ _ _ _ => pg_name (i := 2) sc__law_counts.nd rfl (Or.inl rfl)) (fun _ _ _ _ _ => pts_nil) (fun _ _ _ _ _ => (pe_call ih (hr.mono (by omega)) (by rfl) T.d__law_counts.g T.d__law_counts.F.kp T.d__law_counts.b .nil pass0 (pa_cons (pv 2) pa_nil))))
      (pss_one (ps_ret (pe_tup (pa_cons (pe_op op_add (pe_callTy call_int1 (by rfl) T.n_int (by decide +kernel) (pa_cons (pe_cmpR op_eq (pe_ix ix_tup (pv 0) pe_int (fun _ _ => rfl)) pe_str (nomark _)) pa_nil)) (pe_callB (cr_sum rfl) (by rfl) T.n_sum (by decide +kernel) (pa_cons (pe_lc (own := [("_law_one", 2)]) (g := gName 2) (te := tOp (rIxT K) (tVar 2) (tC (.int 0))) (tt := tYes) rfl sc__law_counts.nd (pi_list (pv 1)) (blkOk_by (own := [("_law_one", 2)]) (N := n__law_counts) (sc := defScope s__law_counts) (by decide +kernel)) (fun _ _ _ _ _ => pg_name (i := 2) sc__law_counts.nd rfl (Or.inl rfl)) (fun _ _ _ _ _ => pts_nil) (fun _ _ _ _ _ => (pe_ix ix_tup (pv 2) pe_int (fun _ _ => rfl)))) pa_nil))) (pa_cons (pe_op op_add pe_int (pe_callB (cr_sum rfl) (by rfl) T.n_sum (by decide +kernel) (pa_cons (pe_lc (own := [("_law_one", 2)]) (g := gName 2) (te := tOp (rIxT K) (tVar 2) (tC (.int 1))) (tt := tYes) rfl sc__law_counts.nd (pi_list (pv 1)) (blkOk_by (own := [("_law_one", 2)]) (N := n__law_counts) (sc := defScope s__law_counts) (by decide +kernel)) (fun _ _ _ _ _ => pg_name (i := 2) sc__law_counts.nd rfl (Or.inl rfl)) (fun _ _ _ _ _ => pts_nil) (fun _ _ _ _ _ => (pe_ix ix_tup (pv 2) pe_int (fun _ _ => rfl)))) pa_nil))) pa_nil)))))), ?_⟩
      obtain ⟨hb, l3, s, r, S', N', ns, ed, ta, eS, eN⟩ := hz.kids
      obtain ⟨Ps, pl, ps, pn, hA⟩ := ta.cnts
      refine n_seq ?_
      refine ⟨_, rfl, p, v, d, rfl, hd, hb, fun l ys G0 e0 nl hl qs => ?_⟩
      refine ⟨l, rfl, ⟨_, SqL.of hl⟩, fun D nD => ?_⟩
      have yl := qs.len
      refine lc_list (K := K) (a := l) (xs := ys) (fun i G => Ex G0 G ∧ ∃ zs, G D = some (.lst zs) ∧ CntL K G zs (Ps.take i)) ⟨Ex.new nD, [], upd_same, rfl, fun j z s m h => by simp at h⟩ (fun i G _ h => SqL.of (h.1 _ _ hl)) ?_ ?_
      · rintro i x G hx ⟨ex, zs, hz, cl, cn⟩
        have il : i < ys.length := (List.getElem?_eq_some_iff.mp hx).1
        obtain ⟨di, hdi⟩ : ∃ di, (kidsD d)[i]? = some di := ⟨_, List.getElem?_eq_getElem (by omega)⟩
        obtain ⟨x', hx', qx⟩ := qs.get hdi
        rw [hx] at hx'
        cases hx'
        obtain ⟨si, mi, zi, hni, hsz⟩ := hA i di hdi
        refine ⟨rfl, ?_⟩
        refine yes_of ?_
        rw [if_pos rfl]
        refine ⟨x, rfl, p, x, di, si, mi, zi, rfl, Dq.ex ex _ _ qx, hsz, fun t G2 e2 hS => ?_⟩
        have hz2 := e2 _ _ hz
        have zl : zs.length = i := by rw [cl, List.length_take]; omega
        have up : ExB D G2 (upd G2 D (.lst (zs ++ [.ref t]))) := ExB.upd (ExB.refl D G2)
        refine ⟨zs, hz2, small1000 (by omega), Ex.mut (ex.trans e2) nD, zs ++ [.ref t], upd_same, ?_, fun j z s m hj hp => ?_⟩
        · rw [List.length_append, zl, List.length_take]
          show i + 1 = _
          omega
        · rw [List.take_succ, hni] at hp
          by_cases c : j < i
          · rw [List.getElem?_append_left (by omega)] at hj
            rw [List.getElem?_append_left (by rw [List.length_take]; omega)] at hp
            obtain ⟨t', rfl, h⟩ := cn j z s m hj hp
            exact ⟨t', rfl, sqt_tb (tupd_l hz2) up (ex_t e2 h)⟩
          · have ji : j = i := by
              have := (List.getElem?_eq_some_iff.mp hj).1
              rw [List.length_append, zl, List.length_singleton] at this
              omega
            subst ji
            rw [List.getElem?_append_right (by omega), zl, Nat.sub_self] at hj
            rw [List.getElem?_append_right (by rw [List.length_take]; omega), List.length_take, Nat.min_eq_left (by omega), Nat.sub_self] at hp
            cases hj
            cases hp
            exact ⟨t, rfl, sqt_tb (tupd_l hz2) up hS⟩
      · rintro G ⟨ex, zs, hz, cn⟩
        rw [yl, pl, List.take_length] at cn
        refine n_name ?_
        dsimp only
        have E1 := e0.trans ex
        have lp : Ps.length ≤ 900 := by omega
        have hd1 := Dq.ex E1 _ _ hd
        rw [ed] at hd1
        have evI : ∀ {σ : L2.St}, σ[0]? = some (some v) → Ev (tCB (fun xs H Q => (∃ i, xs = [V.int i] ∧ Q (V.int i) H) ∨ ∃ k, xs = [V.bl k] ∧ Q (V.int (if k = true then 1 else 0)) H) (tCons (tOp rEq (tOp (rIxT K) (tVar 0) (tC (V.int 0))) (tC (V.str "step"))) tNil)) σ G (.int (if s = "step" then 1 else 0)) := fun h0 H1 e Q k => (ev_name (t := "step") h0 (Dq.ex e _ _ hd1)) H1 (Ex.refl _) _ fun H2 e2 => .inr ⟨_, rfl, by
          by_cases c : s = "step"
          · rw [if_pos c] at k
            rw [if_pos (decide_eq_true c)]
            exact k H2 e2
          · rw [if_neg c] at k
            rw [if_neg (by rw [decide_eq_false c]; decide)]
            exact k H2 e2⟩
        refine (ev_add (evI rfl) (ev_sumC hz cn lp 0 Prod.fst fun _ _ => rfl)) G (Ex.refl _) _ fun G2 e2 => ?_
        refine (ev_add ev_c (ev_sumC (e2 _ _ hz) ⟨cn.1, fun j z s m h1 h2 => ?_⟩ lp 1 Prod.snd fun _ _ => rfl)) G2 (Ex.refl _) _ fun G3 e3 => ?_
        · obtain ⟨t, rfl, h⟩ := cn.2 j z s m h1 h2
          exact ⟨t, rfl, ex_t e2 h⟩
        refine ⟨by show 2 ≤ sizeLine; decide, fun t ft => ?_⟩
        have x1 := Ex.new (o := .tup [V.int ((if s = "step" then 1 else 0) + (((Ps.map Prod.fst).sum : Nat) : Int)), V.int (1 + (((Ps.map Prod.snd).sum : Nat) : Int))]) ft
        refine kk t _ (((E1.trans e2).trans e3).trans x1) (SqT.of ?_)
        rw [upd_same, ps, pn, eS, eN]
        congr 3
        · by_cases c : s = "step"
          · rw [if_pos c, if_pos c]
            rfl
          · rw [if_neg c, if_neg c]
            simp
end
/-! ### drawn terms -/
mutual
theorem Tm.up : ∀ {k S N n : Nat} {d : PyData}, Tm k d S N n → Tm (k + 1) d S N n
  | _, _, _, _, _, .e => .e
  | _, _, _, _, _, .al ta l2 l3 => .al ta.up l2 l3
  | _, _, _, _, _, .st a b c ta => .st a b c ta.up
theorem TmA.up : ∀ {k S N : Nat} {ds : List PyData} {ns : List Nat}, TmA k ds S N ns → TmA (k + 1) ds S N ns
  | _, _, _, _, _, .nil => .nil
  | _, _, _, _, _, .cons h hs => .cons h.up hs.up
end
theorem Tm.le {k j S N n : Nat} {d : PyData} (h : Tm k d S N n) (l : k ≤ j) : Tm j d S N n := by
  obtain ⟨i, rfl⟩ : ∃ i, j = k + i := ⟨j - k, by omega⟩
  clear l
  induction i with
  | zero => exact h
  | succ i ih => exact ih.up
theorem mem_le_sum : ∀ {ms : List Nat} {m : Nat}, m ∈ ms → m ≤ ms.sum
  | a :: ms, m, h => by
    rw [List.sum_cons]
    rcases List.mem_cons.mp h with rfl | h
    · omega
    · have := mem_le_sum h
      omega
theorem flat_app : ∀ {as bs : List PyData}, flatDA as = true → flatDA bs = true → flatDA (as ++ bs) = true
  | [], _, _, h => h
  | a :: as, bs, h, h' => by
    simp only [flatNA, Bool.and_eq_true, List.cons_append] at h ⊢
    exact ⟨h.1, flat_app h.2 h'⟩
theorem s_par3 {i j l : Nat} {ta tb tc : TE} {D : Ends} {σ : L2.St} {H : Hp} (h : ta σ H (fun u H1 => tb σ H1 fun v H2 => tc σ H2 fun w H3 => ∃ u' v' w', [u, v, w] = [u', v', w'] ∧ D.nx (((σ.set i (some u')).set j (some v')).set l (some w')) H3)) : tPar3 i j l (tCons ta (tCons tb (tCons tc tNil))) D σ H := h
def manB : PyData → Bool
  | .int n => decide (0 ≤ n) && decide (n ≤ 3)
  | _ => false
theorem good_man : ∀ d ∈ ([.int 0, .int 1, .int 1, .int 2, .int 2, .int 3] : List PyData), (manB d && flatD d) = true := by decide +kernel
theorem man_int {d : PyData} (h : manB d = true) : ∃ n : Nat, d = .int (n : Nat) ∧ n ≤ 3 := by
  cases d with
  | int n =>
    have h' : (decide (0 ≤ n) && decide (n ≤ 3)) = true := h
    simp only [Bool.and_eq_true, decide_eq_true_eq] at h'
    exact ⟨n.toNat, by rw [Int.toNat_of_nonneg h'.1], by omega⟩
  | _ => cases h
def spGrw (K : PySem.W.Frag) (k : Nat) : Sp := fun vs H Q _ => ∃ (p : Addr) (r : Nat), vs = [.ref p, .int (k : Nat), .int (r : Nat)] ∧ Tape H p ∧ r ≤ 1000 ∧ k ≤ 30 ∧ ∀ v d S N n H', ExB p H H' → Tape H' p → Dq K p H' v d → flatD d = true → Tm (k + 2) d S N n → S ≤ r → Q v H'
section
variable {P : Program} {w : World} {K : PySem.W.Frag} {mg : Str → Option Value} {base : Heap}
theorem grw_of (T : Txt K mg) (k : Nat) (ih : FnOk P w K mg base CX0 (43 + k) T.d__law_grown_term.a T.d__law_grown_term.fd ["_law_tape_here", "_law_deep", "_law_room"] (fun vs H Q E => ∃ j, k = j + 1 ∧ spGrw K j vs H Q E)) : FnOk P w K mg base CX0 (43 + k + 1) T.d__law_grown_term.a T.d__law_grown_term.fd ["_law_tape_here", "_law_deep", "_law_room"] (spGrw K k) := by
  refine (T.d__law_grown_term.F.ok (k := 43 + k) sc__law_grown_term (fun vs H Q E h => ?_) fun cdv A outer s H vs Q E hr h => ?_)
  · obtain ⟨p, r, rfl, _⟩ := h
    rfl
  · obtain ⟨p, r, rfl, ht, r1, k30, kk⟩ := h
    refine ⟨_, (pss_cons (ps_set (i := 3) sc__law_grown_term.nd rfl (Or.inl rfl) (pe_call (ok__law_pick T) (hr.mono (by omega)) (by rfl) T.d__law_pick.g T.d__law_pick.F.kp T.d__law_pick.b .nil pass0 (pa_cons (pv 0) (pa_cons pe_int pa_nil))))
      (pss_cons (ps_if (PW.pt (pw_or (pt_cmpR op_eq (pv 2) pe_int (nomark _)) (pw_or (pt_cmpR op_eq (pv 3) pe_int (nomark _)) (pw_or1 (PW.pt (pw_and (pt_cmpR op_eq (pv 1) pe_int (nomark _)) (pw_and1 (pt_cmpR op_lt (pv 3) pe_int (nomark _))))))))) (pss_one (ps_ret (pe_tup (pa_cons pe_str pa_nil)))) pss_nil)
      (pss_cons (ps_if (pt_cmpR op_lt (pv 3) pe_int (nomark _)) (pss_cons (ps_set (i := 4) sc__law_grown_term.nd rfl (Or.inl rfl) (pe_slice sl_list (pe_lst (pa_cons (pe_op op_fdivZ (pv 2) pe_int) (pa_cons (pe_op op_sub (pv 2) (pe_op op_fdivZ (pv 2) pe_int)) (pa_cons pe_int pa_nil)))) po_none (po_some (pe_op op_add pe_int (pe_call (ok__law_pick T) (hr.mono (by omega)) (by rfl) T.d__law_pick.g T.d__law_pick.F.kp T.d__law_pick.b .nil pass0 (pa_cons (pv 0) (pa_cons pe_int pa_nil)))))))
      (pss_one (ps_ret (pe_tup (pa_cons pe_str (pa_cons (pe_callTy call_tuple_of (by rfl) T.n_tuple (by decide +kernel) (pa_cons (pe_lc (own := [("_law_lot", 10)]) (g := gName 10) (tt := tYes) rfl sc__law_grown_term.nd (pi_list (pv 4)) (blkOk_by (own := [("_law_lot", 10)]) (N := n__law_grown_term) (sc := defScope s__law_grown_term) (by decide +kernel)) (fun _ _ _ _ _ => pg_name (i := 10) sc__law_grown_term.nd rfl (Or.inl rfl)) (fun _ _ _ _ _ => pts_nil) (fun _ _ _ _ _ => (pe_call ih (hr.mono (by omega)) (by rfl) T.d__law_grown_term.g T.d__law_grown_term.F.kp T.d__law_grown_term.b .nil pass0 (pa_cons (pv 0) (pa_cons (pe_op op_sub (pv 1) pe_int) (pa_cons (pv 10) pa_nil)))))) pa_nil)) pa_nil)))))) pss_nil)
      (pss_cons (ps_par3 (i := 5) (j := 6) (l := 7) (by rfl) sc__law_grown_term.nd rfl rfl rfl (by decide) (by decide) (by decide) rfl rfl rfl (pa_cons (pe_call (ok__law_one_of T) (hr.mono (by omega)) (by rfl) T.d__law_one_of.g T.d__law_one_of.F.kp T.d__law_one_of.b .nil pass0 (pa_cons (pv 0) (pa_cons (pe_lst (pa_cons pe_int (pa_cons pe_int (pa_cons pe_int (pa_cons pe_int (pa_cons pe_int (pa_cons pe_int pa_nil))))))) pa_nil))) (pa_cons (pe_lst pa_nil) (pa_cons (pe_op op_sub (pv 2) pe_int) pa_nil))) (by rfl))
      (pss_cons (ps_for PassesOwn.never rfl (pi_range1 (by rfl) T.n_range (pa_cons (pv 5) pa_nil)) (pg_name (i := 8) sc__law_grown_term.nd rfl (Or.inl rfl)) (pss_cons (ps_set (i := 9) sc__law_grown_term.nd rfl (Or.inl rfl) (pe_ifExp (pt_cmpR op_gt (pv 1) pe_int (nomark _)) (pe_call ih (hr.mono (by omega)) (by rfl) T.d__law_grown_term.g T.d__law_grown_term.F.kp T.d__law_grown_term.b .nil pass0 (pa_cons (pv 0) (pa_cons (pe_op op_sub (pv 1) pe_int) (pa_cons (pe_op op_fdivZ (pv 7) (pe_op op_sub (pv 5) (pv 8))) pa_nil)))) (pe_tup (pa_cons pe_str pa_nil))))
      (pss_cons (ps_set (i := 7) sc__law_grown_term.nd rfl (Or.inl rfl) (pe_op op_sub (pv 7) (pe_ix ix_tup (pe_call (ok__law_counts T 40) (hr.mono (by first | decide | omega)) (by rfl) T.d__law_counts.g T.d__law_counts.F.kp T.d__law_counts.b .nil pass0 (pa_cons (pv 9) pa_nil)) pe_int (fun _ _ => rfl))))
      (pss_one (ps_expr (pe_bm PySem.F.plainAttrs_list PySem.F.slot_list_append PySem.F.type_list_append mt_append (pv 6) (pa_cons (pe_tup (pa_cons (pe_call (ok__law_drawn_weight T) (hr.mono (by omega)) (by rfl) T.d__law_drawn_weight.g T.d__law_drawn_weight.F.kp T.d__law_drawn_weight.b .nil pass0 (pa_cons (pv 0) pa_nil)) (pa_cons (pv 9) pa_nil))) pa_nil)))))))
      (pss_one (ps_ret (pe_tup (pa_cons pe_str (pa_cons (pe_call (ok__law_drawn_pay T) (hr.mono (by omega)) (by rfl) T.d__law_drawn_pay.g T.d__law_drawn_pay.F.kp T.d__law_drawn_pay.b .nil pass0 (pa_cons (pv 0) pa_nil)) (pa_cons (pe_callTy call_tuple_of (by rfl) T.n_tuple (by decide +kernel) (pa_cons (pv 6) pa_nil)) pa_nil))))))))))), ?_⟩
    refine n_seq ?_
    refine ⟨_, rfl, p, 8, rfl, ht, by decide, by decide, fun way H1 w0 w8 eb1 ht1 => ?_⟩
    dsimp only
    refine n_seq ?_
    have c0 : (decide (V.int ((r : Nat) : Int) = V.int 0) || (decide (V.int way = V.int 0) || (decide (V.int ((k : Nat) : Int) = V.int 0) && decide (way < 3)))) = decide (r = 0 ∨ way = 0 ∨ (k = 0 ∧ way < 3)) := by
      rw [Bool.eq_iff_iff, Bool.or_eq_true, Bool.or_eq_true, Bool.and_eq_true, decide_eq_true_iff, decide_eq_true_iff, decide_eq_true_iff, decide_eq_true_iff, decide_eq_true_iff, V.int.injEq, V.int.injEq, V.int.injEq]
      omega
    refine s_if (b := decide (r = 0 ∨ way = 0 ∨ (k = 0 ∧ way < 3))) (et_is (et_or (et_test (ev_op (ev_var rfl) ev_c (rv_eq rfl))) fun _ => et_or (et_test (ev_op (ev_var rfl) ev_c (rv_eq rfl))) fun _ => et_and (et_test (ev_op (ev_var rfl) ev_c (rv_eq rfl))) fun _ => et_test (ev_op (ev_var rfl) ev_c rv_I0)) c0) (fun hc H2 e2 => ?_) (fun hc H2 e2 => ?_)
    · refine s_retP (ed_tup (K := K) (p := p) (ds := [.str "end"]) (eds_cons ed_str eds_nil) (by decide)) fun v H3 e3 q => ?_
      exact kk v _ 0 1 1 H3 (eb1.trans (Ex.b (e2.trans e3))) (ht1.ex (e2.trans e3)) q (by decide) .e (Nat.zero_le _)
    · have nc := of_decide_eq_false hc
      have r0 : 0 < r := by omega
      refine n_next ?_
      dsimp only
      refine n_seq ?_
      have ht2 := ht1.ex e2
      have eb2 := eb1.trans (Ex.b e2)
      refine s_if (b := decide (way < 3)) (et_test (ev_op (ev_var rfl) ev_c rv_I0)) (fun hw H3 e3 => ?_) (fun hw H3 e3 => ?_)
      · have w3 := of_decide_eq_true hw
        obtain ⟨j, rfl⟩ : ∃ j, k = j + 1 := ⟨k - 1, by omega⟩
        have hz2 : CDivZ ((r : Nat) : Int) 2 := ⟨by decide, by decide⟩
        refine n_seq ?_
        refine (ev_fdivZ (ev_var rfl) ev_c hz2) H3 (Ex.refl _) _ fun H4 e4 => ?_
        refine (ev_sub (ev_var rfl) (ev_fdivZ (ev_var rfl) ev_c hz2)) H4 (Ex.refl _) _ fun H5 e5 => ⟨by show 3 ≤ sizeLine; decide, fun l fl => ?_⟩
        have x5 := Ex.new (o := .lst [V.int (((r : Nat) : Int).fdiv 2), V.int (((r : Nat) : Int) - ((r : Nat) : Int).fdiv 2), V.int 0]) fl
        have hl5 : (upd H5 l (.lst [V.int (((r : Nat) : Int).fdiv 2), V.int (((r : Nat) : Int) - ((r : Nat) : Int).fdiv 2), V.int 0])) l = some (.lst (intsN [r / 2, r - r / 2, 0])) := by
          rw [upd_same, Int.fdiv_eq_ediv_of_nonneg _ (by decide)]
          have : ((r / 2 : Nat) : Int) = (r : Int) / 2 := by simp
          show some (HO.lst [V.int ((r : Int) / 2), V.int ((r : Int) - (r : Int) / 2), V.int 0]) = some (HO.lst [V.int ((r / 2 : Nat) : Int), V.int ((r - r / 2 : Nat) : Int), V.int 0])
          rw [← this, Int.natCast_sub (by omega)]
        have ht5 := ht2.ex (((e3.trans e4).trans e5).trans x5)
        have nlp : l ≠ p := by
          obtain ⟨d, m, h, _⟩ := ht2.ex ((e3.trans e4).trans e5)
          exact (ne_of_none h fl).symm
        refine ⟨_, rfl, p, 2, rfl, ht5, by decide, by decide, fun r' H6 q0 q1 eb6 ht6 => ⟨2, r', rfl, rfl, _, rfl, l, _, rfl, SqL.of (eb6 _ _ nlp hl5), fun l2 fl2 => ?_⟩⟩
        obtain ⟨ms, hms, msum, ml2, ml3⟩ : ∃ ms : List Nat, cutV (intsN [r / 2, r - r / 2, 0]) none (some (2 + r')) = intsN ms ∧ ms.sum = r ∧ 2 ≤ ms.length ∧ ms.length ≤ 3 := by
          obtain rfl | rfl : r' = 0 ∨ r' = 1 := by omega
          · exact ⟨[r / 2, r - r / 2], rfl, (by simp; omega), (by show 2 ≤ 2; decide), (by show 2 ≤ 3; decide)⟩
          · exact ⟨[r / 2, r - r / 2, 0], rfl, (by simp; omega), (by show 2 ≤ 3; decide), (by show 3 ≤ 3; decide)⟩
        rw [hms]
        have x7 := Ex.new (o := .lst (intsN ms)) fl2
        have ht7 := ht6.ex x7
        have nl2p : l2 ≠ p := by
          obtain ⟨d, m, h, _⟩ := ht6
          exact (ne_of_none h fl2).symm
        have hl7 : (upd H6 l2 (.lst (intsN ms))) l2 = some (.lst (intsN ms)) := upd_same
        have eb7 : ExB p H (upd H6 l2 (.lst (intsN ms))) := ((eb2.trans (Ex.b (((e3.trans e4).trans e5).trans x5))).trans eb6).trans (Ex.b x7)
        generalize upd H6 l2 (.lst (intsN ms)) = H7 at ht7 hl7 eb7
        dsimp only
        refine ⟨_, rfl, l2, rfl, ⟨_, SqL.of hl7⟩, fun D nD => ?_⟩
        have nDp : D ≠ p := by
          obtain ⟨d, m, h, _⟩ := ht7
          exact (ne_of_none h nD).symm
        have nDl : l2 ≠ D := ne_of_none hl7 nD
        have mlen : (intsN ms).length = ms.length := List.length_map ..
        refine lc_list (K := K) (a := l2) (xs := intsN ms) (fun i G => Tape G p ∧ ExB p H7 G ∧ ∃ zs ds S N ns, G D = some (.lst zs) ∧ zs.length = i ∧ DqAll K p G zs ds ∧ flatDA ds = true ∧ TmA (j + 2) ds S N ns ∧ S ≤ (ms.take i).sum) ⟨ht7.ex (Ex.new nD), Ex.b (Ex.new nD), [], [], 0, 0, [], upd_same, rfl, .nil, rfl, .nil, Nat.zero_le _⟩ (fun i G _ h => SqL.of (h.2.1 _ _ nl2p hl7)) ?_ ?_
        · rintro i x G hx ⟨htG, ebG, zs, ds, S, N, ns, hz, hzl, dq, fl', ta, sl⟩
          unfold intsN at hx
          rw [List.getElem?_map] at hx
          obtain ⟨m, hm, rfl⟩ := Option.map_eq_some_iff.mp hx
          have il : i < ms.length := (List.getElem?_eq_some_iff.mp hm).1
          have mr : m ≤ r := by
            rw [← msum]
            exact mem_le_sum (List.mem_of_getElem? hm)
          refine ⟨rfl, ?_⟩
          refine yes_of ?_
          rw [if_pos rfl]
          refine ⟨_, rfl, _, rfl, _, 1, rfl, rfl, _, rfl, j, rfl, p, m, (by
            show [V.ref p, V.int (((j + 1 : Nat) : Int) - 1), V.int ((m : Nat) : Int)] = _
            rw [show (((j + 1 : Nat) : Int) - 1) = ((j : Nat) : Int) by omega]), htG, by omega, by omega, fun v d S' N' n' G2 eb' ht' q f' tm le' => ?_⟩
          have hz2 := eb' _ _ nDp hz
          have up : ExB D G2 (upd G2 D (.lst (zs ++ [v]))) := ExB.upd (ExB.refl D G2)
          refine ⟨zs, hz2, small1000 (by omega), ?_, fun b o nb hb => ?_, zs ++ [v], ds ++ [d], _, _, _, upd_same, by rw [List.length_append, hzl]; rfl, ?_, flat_app fl' (by simp [flatNA, f']), ta.snoc tm, ?_⟩
          · obtain ⟨d0, m0, h, r0⟩ := ht'
            exact ⟨d0, m0, by rw [upd_ne nDp.symm]; exact h, r0⟩
          · rw [upd_ne (ne_of_none hb nD)]
            exact eb' _ _ nb (ebG _ _ nb hb)
          · exact (DqAll.fl (tupd_l hz2) up _ _ fl' (DqAll.fl htG.tupd eb' _ _ fl' dq)).append (.cons (Dq.fl (tupd_l hz2) up _ _ f' q) .nil)
          · rw [List.take_succ, hm, List.sum_append]
            simp
            omega
        · rintro G ⟨htG, ebG, zs, ds, S, N, ns, hz, hzl, dq, fl', ta, sl⟩
          rw [mlen] at hzl sl
          rw [List.take_length, msum] at sl
          refine ⟨D, zs, rfl, .inl ⟨SqL.of hz, fun t ft => ⟨by show 2 ≤ sizeLine; decide, fun t2 ft2 => ?_⟩⟩⟩
          have x8 := Ex.new (o := .tup zs) ft
          have x9 := Ex.new (o := .tup [.str "all", .ref t]) ft2
          have dl := dq.len
          refine kk (.ref t2) (.tuple [.str "all", .tuple ds]) S (N + 1) _ _ (eb7.trans (ebG.trans (Ex.b (x8.trans x9)))) (htG.ex (x8.trans x9)) (.tup (SqT.of upd_same) (.cons (.str _) (.cons (.tup (SqT.of (x9 _ _ upd_same)) (DqAll.ex (x8.trans x9) _ _ dq)) .nil))) (by simp [flatN, flatNA, fl']) (.al ta (by omega) (by omega)) sl
      · refine n_next ?_
        dsimp only
        have ht3 := ht2.ex e3
        refine n_seq ?_
        refine s_par3 ?_
        refine (show tCall (spOneOf K) _ _ _ _ H3 _ from ?_)
        refine rd_oneD (K := K) (ds := [.int 0, .int 1, .int 1, .int 2, .int 2, .int 3]) (eds_cons ed_I (eds_cons ed_I (eds_cons ed_I (eds_cons ed_I (eds_cons ed_I (eds_cons ed_I eds_nil)))))) ht3 rfl (by decide) (by decide) (fun d hd => ?_) fun v d H4 hd eb4 ht4 q => ?_
        · have := good_man d hd
          simp only [Bool.and_eq_true] at this
          exact this.2
        have g4 := good_man d hd
        simp only [Bool.and_eq_true] at g4
        obtain ⟨many, rfl, m3⟩ := man_int g4.1
        cases q
        refine ⟨by show 0 ≤ sizeLine; decide, fun l fl => ⟨_, rfl, (r : Nat), 1, rfl, rfl, _, _, _, rfl, ?_⟩⟩
        have x5 := Ex.new (o := .lst []) fl
        have nlp : l ≠ p := by
          obtain ⟨d, m, h, _⟩ := ht4
          exact (ne_of_none h fl).symm
        have ht5 := ht4.ex x5
        have eb5 : ExB p H (upd H4 l (.lst [])) := ((eb2.trans (Ex.b e3)).trans eb4).trans (Ex.b x5)
        have hl5 : (upd H4 l (.lst [])) l = some (.lst []) := upd_same
        have new5 : ∀ b o, b ≠ p → H b = some o → b ≠ l := fun b o nb hb => ne_of_none (((eb2.trans (Ex.b e3)).trans eb4) b o nb hb) fl
        generalize upd H4 l (.lst []) = H5 at ht5 eb5 hl5
        dsimp only
        rw [show (((r : Nat) : Int) - 1) = ((r - 1 : Nat) : Int) by omega]
        refine n_seq ?_
        refine ⟨_, rfl, (many : Nat), rfl, by omega, by omega, ?_⟩
        refine for_range (lo := 0) (n := many) (fun i σ G => ∃ (left : Nat) (y4 y8 y9 y10 : Option V) (zs : List V) (os : List PyData) (S N : Nat) (ns : List Nat), σ = [some (.ref p), some (.int (k : Nat)), some (.int (r : Nat)), some (.int way), y4, some (.int (many : Nat)), some (.ref l), some (.int (left : Nat)), y8, y9, y10] ∧ Tape G p ∧ ExB p H G ∧ G l = some (.lst zs) ∧ zs.length = i ∧ DqAll K p G zs os ∧ flatDA os = true ∧ (∀ o ∈ os, outB o = true) ∧ TmA (k + 1) (os.map sndD) S N ns ∧ left + S + 1 = r)
          ⟨r - 1, none, none, none, none, [], [], 0, 0, [], rfl, ht5, eb5, hl5, rfl, .nil, rfl, (fun o h => absurd h (by simp)), .nil, by omega⟩ ?_ ?_
        · rintro i σ G hi ⟨left, y4, y8, y9, y10, zs, os, S, N, ns, rfl, htG, ebG, hz, hzl, dq, fl', ob, ta, ls⟩
          rw [show (0 : Int) + ((i : Nat) : Int) = ((i : Nat) : Int) by omega]
          refine n_name ?_
          dsimp only
          refine s_join (fun σ' G' => ∃ v d S' N' n', σ' = [some (.ref p), some (.int (k : Nat)), some (.int (r : Nat)), some (.int way), y4, some (.int (many : Nat)), some (.ref l), some (.int (left : Nat)), some (.int (i : Nat)), some v, y10] ∧ Tape G' p ∧ ExB p G G' ∧ Dq K p G' v d ∧ flatD d = true ∧ Tm (k + 1) d S' N' n' ∧ S' ≤ left) (fun NX hNX => ?_) ?_
          · refine (et_test (ev_op (ev_var rfl) ev_c rv_I0)) G (Ex.refl _) _ fun G1 e1 => ?_
            by_cases k0 : 0 < k
            · obtain ⟨j, rfl⟩ : ∃ j, k = j + 1 := ⟨k - 1, by omega⟩
              rw [decide_eq_true (show (0 : Int) < ((j + 1 : Nat) : Int) by omega)]
              refine iteT ?_
              have hzd : CDivZ ((left : Nat) : Int) (((many : Nat) : Int) - ((i : Nat) : Int)) := ⟨by omega, log_lt (b := 40) (by
                have : (2 : Nat) ^ 40 = 1099511627776 := by decide
                omega) (by decide) (by decide)⟩
              have ediv : (((left : Nat) : Int)).fdiv (((many : Nat) : Int) - ((i : Nat) : Int)) = ((left / (many - i) : Nat) : Int) := by
                rw [Int.fdiv_eq_ediv_of_nonneg _ (by omega), ← Int.natCast_sub (by omega)]
                simp
              have lle : left / (many - i) ≤ left := Nat.div_le_self _ _
              refine ⟨_, rfl, _, rfl, _, 1, rfl, rfl, _, rfl, _, rfl, _, rfl, _, _, rfl, rfl, _, _, rfl, rfl, hzd, j, rfl, p, left / (many - i), (by
                show [V.ref p, V.int (((j + 1 : Nat) : Int) - 1), V.int ((((left : Nat) : Int)).fdiv (((many : Nat) : Int) - ((i : Nat) : Int)))] = _
                rw [ediv, show (((j + 1 : Nat) : Int) - 1) = ((j : Nat) : Int) by omega]), htG.ex e1, by omega, by omega, fun v d S' N' n' G2 eb' ht' q f' tm le' => ?_⟩
              exact hNX _ _ ⟨v, d, S', N', n', rfl, ht', (Ex.b e1).trans eb', q, f', tm, by omega⟩
            · rw [decide_eq_false (show ¬ (0 : Int) < ((k : Nat) : Int) by omega)]
              refine iteF ?_
              refine (ed_tup (K := K) (p := p) (ds := [.str "end"]) (eds_cons ed_str eds_nil) (by decide)) G1 (Ex.refl _) _ fun v G2 e2 q => ?_
              exact hNX _ _ ⟨v, _, 0, 1, 1, rfl, htG.ex (e1.trans e2), Ex.b (e1.trans e2), q, by decide, .e, Nat.zero_le _⟩
          · rintro σ' G1 ⟨v, d, S', N', n', rfl, ht1, eb1', q, f', tm, le'⟩
            refine n_seq ?_
            refine ⟨_, rfl, _, rfl, p, v, d, S', N', n', rfl, q, tm.le (by omega), fun t G2 e2 hS => ⟨t, _, 0, _, rfl, rfl, hS, rfl, _, _, rfl, rfl, ?_⟩⟩
            dsimp only
            rw [show (((left : Nat) : Int) - ((S' : Nat) : Int)) = ((left - S' : Nat) : Int) by omega]
            have ht2' := ht1.ex e2
            have hz2 := e2 _ _ (eb1' _ _ nlp hz)
            refine ⟨_, rfl, .inl ⟨rfl, _, SqL.of hz2⟩, _, rfl, p, rfl, ht2', fun vw dw G3 eb3 ht3' qw pw fw => ⟨_, rfl, by show 2 ≤ sizeLine; decide, fun t2 ft2 => ?_⟩⟩
            have hz3 := eb3 _ _ nlp hz2
            have x4 := Ex.new (o := .tup [vw, v]) ft2
            have hz4 := x4 _ _ hz3
            have q3 := Dq.ex x4 _ _ (Dq.fl ht2'.tupd eb3 _ _ f' (Dq.ex e2 _ _ q))
            have dq4 := DqAll.ex x4 _ _ (DqAll.fl ht2'.tupd eb3 _ _ fl' (DqAll.ex e2 _ _ (DqAll.fl htG.tupd eb1' _ _ fl' dq)))
            have qn : Dq K p (upd G3 t2 (.tup [vw, v])) (.ref t2) (.tuple [dw, d]) := .tup (SqT.of upd_same) (.cons (Dq.ex x4 _ _ qw) (.cons q3 .nil))
            have fn : flatD (.tuple [dw, d]) = true := by simp [flatN, flatNA, fw, f']
            have ht4' := ht3'.ex x4
            have ebF : ExB p G (upd G3 t2 (.tup [vw, v])) := ((eb1'.trans (Ex.b e2)).trans eb3).trans (Ex.b x4)
            generalize upd G3 t2 (.tup [vw, v]) = G4 at hz4 dq4 qn ht4' ebF
            have up := ExB.upd (o := .lst (zs ++ [.ref t2])) (ExB.refl l G4)
            refine ⟨l, zs, _, rfl, rfl, hz4, small1000 (by omega), left - S', _, _, _, _, zs ++ [.ref t2], os ++ [.tuple [dw, d]], S + S', N + N', ns ++ [n'], rfl, ?_, fun b o nb hb => ?_, upd_same, by rw [List.length_append, hzl]; rfl, (DqAll.fl (tupd_l hz4) up _ _ fl' dq4).append (.cons (Dq.fl (tupd_l hz4) up _ _ fn qn) .nil), flat_app fl' (by simp [flatNA, fn]), fun o ho => ?_, ?_, by omega⟩
            · obtain ⟨d0, m0, h, r0⟩ := ht4'
              exact ⟨d0, m0, by rw [upd_ne nlp.symm]; exact h, r0⟩
            · rw [upd_ne (new5 b o nb hb)]
              exact ebF _ _ nb (ebG _ _ nb hb)
            · rcases List.mem_append.mp ho with h | h
              · exact ob o h
              · rw [List.mem_singleton.mp h]
                exact pw
            · rw [List.map_append]
              exact ta.snoc tm
        · rintro σ G ⟨left, y4, y8, y9, y10, zs, os, S, N, ns, rfl, htG, ebG, hz, hzl, dq, fl', ob, ta, ls⟩
          dsimp only
          refine ⟨_, rfl, p, rfl, htG, fun vq dq' G2 eb2' ht2' qq fq ff => ⟨_, rfl, l, zs, rfl, .inl ⟨SqL.of (eb2' _ _ nlp hz), fun t ft => ⟨by show 3 ≤ sizeLine; decide, fun t2 ft2 => ?_⟩⟩⟩⟩
          have x8 := Ex.new (o := .tup zs) ft
          have x9 := Ex.new (o := .tup [.str "step", vq, .ref t]) ft2
          have dl := dq.len
          have dq2 := DqAll.fl htG.tupd eb2' _ _ fl' dq
          refine kk (.ref t2) (.tuple [.str "step", dq', .tuple os]) (S + 1) (N + 1) _ _ (ebG.trans (eb2'.trans (Ex.b (x8.trans x9)))) (ht2'.ex (x8.trans x9)) (.tup (SqT.of upd_same) (.cons (.str _) (.cons (Dq.ex (x8.trans x9) _ _ qq) (.cons (.tup (SqT.of (x9 _ _ upd_same)) (DqAll.ex (x8.trans x9) _ _ dq2)) .nil)))) (by simp [flatN, flatNA, fl', ff]) (.st fq (by omega) ob ta) (by omega)
theorem ok__law_grown_term (T : Txt K mg) : ∀ k, FnOk P w K mg base CX0 (43 + k + 1) T.d__law_grown_term.a T.d__law_grown_term.fd ["_law_tape_here", "_law_deep", "_law_room"] (spGrw K k)
  | 0 => grw_of T 0 ⟨fun _ _ _ _ ⟨j, z, _⟩ => by omega, fun _ _ _ _ _ _ _ _ _ _ _ _ _ ⟨j, z, _⟩ => by omega⟩
  | k + 1 => grw_of T (k + 1) ⟨fun vs H Q E ⟨j, z, h⟩ => by
      obtain rfl : j = k := by omega
      exact (ok__law_grown_term T j).len _ _ _ _ h, fun A outer s H args us vs Q E hr e0 hb hv ⟨j, z, h⟩ => by
      obtain rfl : j = k := by omega
      exact (ok__law_grown_term T j).run A outer s H args us vs Q E hr e0 hb hv h⟩
end
/-! ### drawn terms, small enough -/
section
variable {P : Program} {w : World} {K : PySem.W.Frag} {mg : Str → Option Value} {base : Heap}
def spGrwU (K : PySem.W.Frag) : Sp := fun vs H Q E => ∃ k, k ≤ 3 ∧ spGrw K k vs H Q E
theorem ok__law_grown_termU (T : Txt K mg) : FnOk P w K mg base CX0 47 T.d__law_grown_term.a T.d__law_grown_term.fd ["_law_tape_here", "_law_deep", "_law_room"] (spGrwU K) :=
  ⟨fun vs H Q E ⟨k, _, h⟩ => (ok__law_grown_term (P := P) (w := w) (base := base) T k).len _ _ _ _ h, fun A outer s H args us vs Q E hr e0 hb hv ⟨k, hk, h⟩ =>
    ((ok__law_grown_term T k).mono (by omega)).run A outer s H args us vs Q E hr e0 hb hv h⟩
def spDrn (K : PySem.W.Frag) : Sp := fun vs H Q _ => ∃ (p : Addr) (k r : Nat), vs = [.ref p, .int (k : Nat), .int (r : Nat)] ∧ Tape H p ∧ r ≤ 1000 ∧ k ≤ 3 ∧ ∀ v d S N n H', ExB p H H' → Tape H' p → Dq K p H' v d → flatD d = true → Tm (k + 2) d S N n → S ≤ r → N ≤ 48 → (r ≤ 4 → N ≤ 24) → Q v H'
theorem ok__law_drawn_term (T : Txt K mg) : FnOk P w K mg base CX0 48 T.d__law_drawn_term.a T.d__law_drawn_term.fd ["_law_tape_here", "_law_deep", "_law_room"] (spDrn K) := by
  refine T.d__law_drawn_term.F.ok sc__law_drawn_term (fun vs H Q E h => ?_) (fun cdv A outer s H vs Q E hr h => ?_)
  · obtain ⟨p, k, r, rfl, _⟩ := h
    rfl
  · obtain ⟨p, k, r, rfl, ht, r1, k3, kk⟩ := h
    refine ⟨_, (pss_cons (ps_set (i := 3) sc__law_drawn_term.nd rfl (Or.inl rfl) (pe_call (ok__law_grown_termU T) (hr.mono (by first | decide | omega)) (by rfl) T.d__law_grown_term.g T.d__law_grown_term.F.kp T.d__law_grown_term.b .nil pass0 (pa_cons (pv 0) (pa_cons (pv 1) (pa_cons (pv 2) pa_nil)))))
      (pss_cons (ps_if (PW.pt (pw_or (pt_cmpR op_le (pe_ix ix_tup (pe_call (ok__law_counts T 40) (hr.mono (by first | decide | omega)) (by rfl) T.d__law_counts.g T.d__law_counts.F.kp T.d__law_counts.b .nil pass0 (pa_cons (pv 3) pa_nil)) pe_int (fun _ _ => rfl)) pe_int (nomark _)) (pw_or1 (PW.pt (pw_and (pt_cmpR op_gt (pv 2) pe_int (nomark _)) (pw_and1 (pt_cmpR op_le (pe_ix ix_tup (pe_call (ok__law_counts T 40) (hr.mono (by first | decide | omega)) (by rfl) T.d__law_counts.g T.d__law_counts.F.kp T.d__law_counts.b .nil pass0 (pa_cons (pv 3) pa_nil)) pe_int (fun _ _ => rfl)) pe_int (nomark _)))))))) (pss_one (ps_ret (pv 3))) pss_nil)
      (pss_one (ps_ret (pe_ifExp (pt_cmpR op_gt (pv 2) pe_int (nomark _)) (pe_tup (pa_cons pe_str (pa_cons (pe_call (ok__law_drawn_pay T) (hr.mono (by decide)) (by rfl) T.d__law_drawn_pay.g T.d__law_drawn_pay.F.kp T.d__law_drawn_pay.b .nil pass0 (pa_cons (pv 0) pa_nil)) (pa_cons (pe_tup (pa_cons (pe_tup (pa_cons (pe_tup (pa_cons pe_int (pa_cons pe_int pa_nil))) (pa_cons (pe_tup (pa_cons pe_str pa_nil)) pa_nil))) pa_nil)) pa_nil)))) (pe_tup (pa_cons pe_str pa_nil))))))), ?_⟩
    refine n_seq ?_
    refine ⟨_, rfl, _, rfl, _, rfl, k, k3, p, r, rfl, ht, r1, by omega, fun v d S N n H1 eb1 ht1 q fl tm sl => ?_⟩
    dsimp only
    have cnt : ∀ {G : Hp} {σ : L2.St} {E : XK}, Ex H1 G → σ[3]? = some (some v) → Ev (tOp (rIxT K) (tCall (spCnt K 40) [] E (tCons (tVar 3) tNil)) (tC (.int 1))) σ G (.int (N : Nat)) := fun eg h3 H2 e Q k2 => ⟨_, h3, p, v, d, S, N, n, rfl, Dq.ex (eg.trans e) _ _ q, tm.le (by omega), fun t H3 e3 hS => ⟨t, _, 1, _, rfl, rfl, hS, rfl, k2 H3 e3⟩⟩
    have c0 : (decide (((N : Nat) : Int) ≤ 24) || (decide ((4 : Int) < (r : Nat)) && decide (((N : Nat) : Int) ≤ 48))) = decide (N ≤ 24 ∨ (4 < r ∧ N ≤ 48)) := by
      rw [Bool.eq_iff_iff, Bool.or_eq_true, Bool.and_eq_true, decide_eq_true_iff, decide_eq_true_iff, decide_eq_true_iff, decide_eq_true_iff]
      omega
    refine s_if (b := decide (N ≤ 24 ∨ (4 < r ∧ N ≤ 48))) (et_is (et_or (et_test (ev_op (cnt (Ex.refl _) rfl) ev_c rv_I0)) fun _ => et_and (et_test (ev_op (ev_var rfl) ev_c rv_I0)) fun _ => et_test (ev_op (cnt (Ex.refl _) rfl) ev_c rv_I0)) c0) (fun hc H2 e2 => ?_) (fun hc H2 e2 => ?_)
    · have := of_decide_eq_true hc
      exact ⟨v, rfl, kk v d S N n H2 (eb1.trans (Ex.b e2)) (ht1.ex e2) (Dq.ex e2 _ _ q) fl tm sl (by omega) (fun _ => by omega)⟩
    · refine n_next ?_
      refine (et_test (ev_op (ev_var rfl) ev_c rv_I0)) H2 (Ex.refl _) _ fun H3 e3 => ?_
      have ht3 := ht1.ex (e2.trans e3)
      have eb3 := eb1.trans (Ex.b (e2.trans e3))
      by_cases r0 : 0 < r
      · rw [decide_eq_true (show (0 : Int) < ((r : Nat) : Int) by omega)]
        refine iteT ?_
        refine ⟨_, rfl, p, rfl, ht3, fun vq dq H4 eb4 ht4 qq fq ff => ?_⟩
        refine (ed_tup (K := K) (p := p) (ds := [.tuple [.tuple [.int 1, .int 2], .tuple [.str "end"]]]) (eds_cons (ed_tup (eds_cons (ed_P ed_I ed_I) (eds_cons (ed_tup (eds_cons ed_str eds_nil) (by decide)) eds_nil)) (by show 2 ≤ 1000; decide)) eds_nil) (by show 1 ≤ 1000; decide)) H4 (Ex.refl _) _ fun x H5 e5 q5 => ⟨by show 3 ≤ sizeLine; decide, fun t ft => ?_⟩
        have x6 := Ex.new (o := .tup [.str "step", vq, x]) ft
        refine kk (.ref t) (.tuple [.str "step", dq, .tuple [.tuple [.tuple [.int 1, .int 2], .tuple [.str "end"]]]]) (0 + 0 + 1) (1 + 0 + 1) _ _ (eb3.trans (eb4.trans (Ex.b (e5.trans x6)))) (ht4.ex (e5.trans x6)) (.tup (SqT.of upd_same) (.cons (.str _) (.cons (Dq.ex (e5.trans x6) _ _ qq) (.cons (Dq.ex x6 _ _ q5) .nil)))) (by simp [flatN, flatNA, ff]) (.st fq (by decide) (by decide +kernel) (.cons .e .nil)) (by omega) (by decide) (fun _ => by decide)
      · rw [decide_eq_false (show ¬ (0 : Int) < ((r : Nat) : Int) by omega)]
        refine iteF ?_
        refine (ed_tup (K := K) (p := p) (ds := [.str "end"]) (eds_cons ed_str eds_nil) (by decide)) H3 (Ex.refl _) _ fun x H5 e5 q5 => ?_
        exact kk x _ 0 1 1 H5 (eb3.trans (Ex.b e5)) (ht3.ex e5) q5 (by decide) .e (Nat.zero_le _) (by decide) (fun _ => by decide)
end
/-! ### long and wide terms -/
def longD : Nat → PyData
  | 0 => .tuple [.str "end"]
  | i + 1 => .tuple [.str "step", .tuple [.int (i : Nat), .int 1], .tuple [.tuple [.tuple [.int 1, .int 2], longD i]]]
def wideD : Nat → PyData
  | 0 => .tuple [.str "end"]
  | i + 1 => .tuple [.str "all", .tuple [.tuple [.str "end"], wideD i]]
theorem flat_long : ∀ {m : Nat}, m ≤ 1000 → flatD (longD m) = true
  | 0, _ => by decide
  | i + 1, hm => by
    have h : decide (((i : Nat) : Int).natAbs < 2 ^ 39) = true := decide_eq_true (by
      have : (2 : Nat) ^ 39 = 549755813888 := by decide
      omega)
    simp only [longD, flatN, flatNA, flat_long (show i ≤ 1000 by omega), h, Bool.and_true, Bool.true_and]
    decide
theorem flat_wide : ∀ {m : Nat}, flatD (wideD m) = true
  | 0 => by decide
  | i + 1 => by simp only [wideD, flatN, flatNA, flat_wide (m := i), Bool.and_true, Bool.true_and]
theorem tm_long : ∀ (m : Nat), ∃ n, Tm (m + 1) (longD m) m (m + 1) n
  | 0 => ⟨_, .e⟩
  | i + 1 => by
    obtain ⟨n, h⟩ := tm_long i
    have fq : frB (.tuple [.int ((i : Nat) : Int), .int 1]) = true := frB_frd (((i : Nat) : Int) : Rat)
    have t2 : Tm (i + 1 + 1) (.tuple [.str "step", .tuple [.int (i : Nat), .int 1], .tuple [.tuple [.tuple [.int 1, .int 2], longD i]]]) (i + 0 + 1) (i + 1 + 0 + 1) _ := .st fq (by show 1 ≤ 3; decide) (fun o ho => by
      rw [List.mem_singleton.mp ho]
      show posB (.tuple [.int 1, .int 2]) = true
      decide +kernel) (.cons h .nil)
    exact ⟨_, t2⟩
theorem tm_wide : ∀ (m : Nat), ∃ n, Tm (m + 1) (wideD m) 0 (1 + 2 * m) n
  | 0 => ⟨_, .e⟩
  | i + 1 => by
    obtain ⟨n, h⟩ := tm_wide i
    have t2 : Tm (i + 1 + 1) (.tuple [.str "all", .tuple [.tuple [.str "end"], wideD i]]) (0 + (0 + 0)) (1 + (1 + 2 * i + 0) + 1) _ := .al (.cons .e (.cons h .nil)) (by show 2 ≤ 2; decide) (by show 2 ≤ 3; decide)
    have e3 : 1 + (1 + 2 * i + 0) + 1 = 1 + 2 * (i + 1) := by omega
    rw [e3] at t2
    exact ⟨_, t2⟩
theorem depth_wide : ∀ (m : Nat), (wideD m).depth = 2 * m + 1
  | 0 => rfl
  | i + 1 => by
    show max (PyData.depth (.str "all")) (max (max (PyData.depth (.tuple [.str "end"])) (max (wideD i).depth 0) + 1) 0) + 1 = _
    have h1 : PyData.depth (.str "all") = 0 := rfl
    have h2 : PyData.depth (.tuple [.str "end"]) = 1 := rfl
    rw [depth_wide i, h1, h2]
    omega
theorem depth_long : ∀ (m : Nat), (longD m).depth = 3 * m + 1
  | 0 => rfl
  | i + 1 => by
    show max (PyData.depth (.str "step")) (max (PyData.depth (.tuple [.int ((i : Nat) : Int), .int 1])) (max (max (max (PyData.depth (.tuple [.int 1, .int 2])) (max (longD i).depth 0) + 1) 0 + 1) 0)) + 1 = _
    have h1 : PyData.depth (.str "step") = 0 := rfl
    have h2 : PyData.depth (.tuple [.int ((i : Nat) : Int), .int 1]) = 1 := rfl
    have h3 : PyData.depth (.tuple [.int 1, .int 2]) = 1 := rfl
    rw [depth_long i, h1, h2, h3]
    omega
section
variable {P : Program} {w : World} {K : PySem.W.Frag} {mg : Str → Option Value} {base : Heap}
def spLong (K : PySem.W.Frag) : Sp := fun vs H Q _ => ∃ (p : Addr) (m : Nat), vs = [.int (m : Nat)] ∧ m ≤ 30 ∧ ∀ v H', Ex H H' → Dq K p H' v (longD m) → Q v H'
theorem ok__law_long (T : Txt K mg) : FnOk P w K mg base CX0 1 T.d__law_long.a T.d__law_long.fd ["_law_many"] (spLong K) := by
  refine T.d__law_long.F.ok sc__law_long (fun vs H Q E h => ?_) (fun cdv A outer s H vs Q E hr h => ?_)
  · obtain ⟨p, m, rfl, _⟩ := h
    rfl
  · obtain ⟨p, m, rfl, m3, kk⟩ := h
    refine ⟨_, (pss_cons (ps_set (i := 1) sc__law_long.nd rfl (Or.inl rfl) (pe_tup (pa_cons pe_str pa_nil)))
      (pss_cons (ps_for PassesOwn.never rfl (pi_range1 (by rfl) T.n_range (pa_cons (pv 0) pa_nil)) (pg_name (i := 2) sc__law_long.nd rfl (Or.inl rfl)) (pss_one (ps_set (i := 1) sc__law_long.nd rfl (Or.inl rfl) (pe_tup (pa_cons pe_str (pa_cons (pe_tup (pa_cons (pv 2) (pa_cons pe_int pa_nil))) (pa_cons (pe_tup (pa_cons (pe_tup (pa_cons (pe_tup (pa_cons pe_int (pa_cons pe_int pa_nil))) (pa_cons (pv 1) pa_nil))) pa_nil)) pa_nil)))))))
      (pss_one (ps_ret (pv 1))))), ?_⟩
    refine n_seq ?_
    refine s_asgP (ed_tup (K := K) (p := p) (ds := [.str "end"]) (eds_cons ed_str eds_nil) (by decide)) fun v H1 e1 q => ?_
    dsimp only
    refine n_seq ?_
    refine ⟨_, rfl, (m : Nat), rfl, by omega, by omega, ?_⟩
    refine for_range (lo := 0) (n := m) (fun i σ G => ∃ (v : V) (y2 : Option V), σ = [some (.int (m : Nat)), some v, y2] ∧ Ex H G ∧ Dq K p G v (longD i)) ⟨v, none, rfl, e1, q⟩ ?_ ?_
    · rintro i σ G hi ⟨v, y2, rfl, ex, q⟩
      rw [show (0 : Int) + ((i : Nat) : Int) = ((i : Nat) : Int) by omega]
      refine n_name ?_
      dsimp only
      refine s_asgP (ed_tup (K := K) (p := p) (ds := [.str "step", .tuple [.int (i : Nat), .int 1], .tuple [.tuple [.tuple [.int 1, .int 2], longD i]]]) (eds_cons ed_str (eds_cons (ed_P (ed_var rfl (.int ((i : Nat) : Int))) ed_I) (eds_cons (ed_tup (eds_cons (ed_tup (eds_cons (ed_P ed_I ed_I) (eds_cons (ed_var rfl q) eds_nil)) (by show 2 ≤ 1000; decide)) eds_nil) (by show 1 ≤ 1000; decide)) eds_nil))) (by show 3 ≤ 1000; decide)) fun v2 G2 e2 q2 => ?_
      exact ⟨v2, _, rfl, ex.trans e2, q2⟩
    · rintro σ G ⟨v, y2, rfl, ex, q⟩
      exact ⟨v, rfl, kk v G ex q⟩
def spWide (K : PySem.W.Frag) : Sp := fun vs H Q _ => ∃ (p : Addr) (m : Nat), vs = [.int (m : Nat)] ∧ m ≤ 60 ∧ ∀ v H', Ex H H' → Dq K p H' v (wideD (m / 2)) → Q v H'
theorem ok__law_wide (T : Txt K mg) : FnOk P w K mg base CX0 1 T.d__law_wide.a T.d__law_wide.fd ["_law_many"] (spWide K) := by
  refine T.d__law_wide.F.ok sc__law_wide (fun vs H Q E h => ?_) (fun cdv A outer s H vs Q E hr h => ?_)
  · obtain ⟨p, m, rfl, _⟩ := h
    rfl
  · obtain ⟨p, m, rfl, m3, kk⟩ := h
    refine ⟨_, (pss_cons (ps_set (i := 1) sc__law_wide.nd rfl (Or.inl rfl) (pe_tup (pa_cons pe_str pa_nil)))
      (pss_cons (ps_for PassesOwn.never rfl (pi_range1 (by rfl) T.n_range (pa_cons (pe_op op_fdivZ (pv 0) pe_int) pa_nil)) (pg_name (i := 2) sc__law_wide.nd rfl (Or.inl rfl)) (pss_one (ps_set (i := 1) sc__law_wide.nd rfl (Or.inl rfl) (pe_tup (pa_cons pe_str (pa_cons (pe_tup (pa_cons (pe_tup (pa_cons pe_str pa_nil)) (pa_cons (pv 1) pa_nil))) pa_nil))))))
      (pss_one (ps_ret (pv 1))))), ?_⟩
    refine n_seq ?_
    refine s_asgP (ed_tup (K := K) (p := p) (ds := [.str "end"]) (eds_cons ed_str eds_nil) (by decide)) fun v H1 e1 q => ?_
    dsimp only
    have hz : CDivZ ((m : Nat) : Int) 2 := ⟨by decide, by decide⟩
    have ed : (((m : Nat) : Int)).fdiv 2 = ((m / 2 : Nat) : Int) := by
      rw [Int.fdiv_eq_ediv_of_nonneg _ (by decide)]
      simp
    refine n_seq ?_
    refine (ev_fdivZ (ev_var rfl) ev_c hz) H1 (Ex.refl _) _ fun H2 e2 => ?_
    rw [ed]
    refine ⟨((m / 2 : Nat) : Int), rfl, by omega, by omega, ?_⟩
    refine for_range (lo := 0) (n := m / 2) (fun i σ G => ∃ (v : V) (y2 : Option V), σ = [some (.int (m : Nat)), some v, y2] ∧ Ex H G ∧ Dq K p G v (wideD i)) ⟨v, none, rfl, e1.trans e2, Dq.ex e2 _ _ q⟩ ?_ ?_
    · rintro i σ G hi ⟨v, y2, rfl, ex, q⟩
      refine n_name ?_
      dsimp only
      refine s_asgP (ed_tup (K := K) (p := p) (ds := [.str "all", .tuple [.tuple [.str "end"], wideD i]]) (eds_cons ed_str (eds_cons (ed_tup (eds_cons (ed_tup (eds_cons ed_str eds_nil) (by decide)) (eds_cons (ed_var rfl q) eds_nil)) (by show 2 ≤ 1000; decide)) eds_nil)) (by show 2 ≤ 1000; decide)) fun v2 G2 e2 q2 => ?_
      exact ⟨v2, _, rfl, ex.trans e2, q2⟩
    · rintro σ G ⟨v, y2, rfl, ex, q⟩
      exact ⟨v, rfl, kk v G ex q⟩
end
/-! ### terms: compared without harm -/
mutual
theorem flat_nd : ∀ d : PyData, flatD d = true → d.hasDict = false
  | .none, _ => rfl
  | .bool _, _ => rfl
  | .int _, _ => rfl
  | .str _, _ => rfl
  | .list _, h => by simp [flatN] at h
  | .dict _, h => by simp [flatN] at h
  | .tuple ds, h => by simpa [PyData.hasDict] using flatA_nd ds (by simpa [flatN] using h)
theorem flatA_nd : ∀ ds : List PyData, flatDA ds = true → PyData.hasDictAll ds = false
  | [], _ => rfl
  | d :: ds, h => by
    simp only [flatNA, Bool.and_eq_true] at h
    simp [PyData.hasDictAll, flat_nd d h.1, flatA_nd ds h.2]
end
theorem fr_depth {q : PyData} (h : frB q = true) : q.depth = 1 ∧ q.canLay0 = true := by
  rw [frB_iff h]
  exact ⟨rfl, rfl⟩
theorem depthA_le {m : Nat} : ∀ {ds : List PyData}, (∀ d ∈ ds, d.depth ≤ m) → PyData.depthAll ds ≤ m
  | [], _ => Nat.zero_le _
  | d :: ds, h => by
    show max d.depth (PyData.depthAll ds) ≤ m
    have h1 := h d (by simp)
    have h2 := depthA_le (m := m) (ds := ds) fun e he => h e (by simp [he])
    omega
theorem depthA_mem : ∀ {ds : List PyData} {d : PyData}, d ∈ ds → d.depth ≤ PyData.depthAll ds
  | e :: ds, d, h => by
    show d.depth ≤ max e.depth (PyData.depthAll ds)
    rcases List.mem_cons.mp h with rfl | h
    · omega
    · have := depthA_mem h
      omega
theorem layA_of : ∀ {ds : List PyData}, (∀ d ∈ ds, d.canLay0 = true) → PyData.canLayAll0 ds = true
  | [], _ => rfl
  | d :: ds, h => by
    show (d.canLay0 && PyData.canLayAll0 ds) = true
    rw [h d (by simp), layA_of fun e he => h e (by simp [he])]
    rfl
theorem tma_mem : ∀ {ds : List PyData} {k S N : Nat} {ns : List Nat} {d : PyData}, TmA k ds S N ns → d ∈ ds → ∃ S' N' n', Tm k d S' N' n'
  | e :: ds, _, _, _, _, d, .cons h hs, hd => by
    rcases List.mem_cons.mp hd with rfl | hd
    · exact ⟨_, _, _, h⟩
    · exact tma_mem hs hd
/-- the depth of a term by its levels; its signs -/
theorem tm_lay : ∀ {k S N n : Nat} {d : PyData}, Tm k d S N n → d.canLay0 = true ∧ d.depth + 1 ≤ 3 * k
  | 0, _, _, _, _, h => by cases h
  | k + 1, _, _, _, d, h => by
    cases h with
    | e => exact ⟨by decide +kernel, by show 1 + 1 ≤ 3 * (k + 1); omega⟩
    | @al _ S N ts ns ta l2 l3 =>
      have ih : ∀ d ∈ ts, d.canLay0 = true ∧ d.depth + 1 ≤ 3 * k := fun d hd => by
        obtain ⟨_, _, _, t⟩ := tma_mem ta hd
        exact tm_lay t
      have dp : PyData.depthAll ts ≤ 3 * k := depthA_le fun d hd => by
        have := (ih d hd).2
        omega
      refine ⟨?_, ?_⟩
      · show (PyData.canLay0 (.str "all") && (PyData.canLay0 (.tuple ts) && true)) = true
        rw [show PyData.canLay0 (.tuple ts) = true from layA_of fun d hd => (ih d hd).1]
        decide +kernel
      · show (max (PyData.depth (.str "all")) (max (PyData.depthAll ts + 1) 0) + 1) + 1 ≤ _
        have : PyData.depth (.str "all") = 0 := rfl
        omega
    | @st _ S N q os ns fq ol ob ta =>
      have ih : ∀ o ∈ os, o.canLay0 = true ∧ o.depth ≤ 3 * k := fun o ho => by
        obtain ⟨w, d, rfl⟩ := outB_two (ob o ho)
        obtain ⟨_, _, _, t⟩ := tma_mem ta (List.mem_map.mpr ⟨_, ho, rfl⟩)
        have h1 := tm_lay t
        have h2 : frB w = true := by
          have := ob _ ho
          simp only [outB, posB, Bool.and_eq_true] at this
          exact this.1
        have h3 := fr_depth h2
        refine ⟨?_, ?_⟩
        · show (w.canLay0 && (d.canLay0 && true)) = true
          have : d.canLay0 = true := h1.1
          rw [h3.2, this]
          rfl
        · show max w.depth (max d.depth 0) + 1 ≤ _
          have : d.depth + 1 ≤ 3 * k := h1.2
          have : 1 ≤ d.depth := by
            cases t with
            | e => exact Nat.le_add_left _ _
            | al => exact Nat.le_add_left _ _
            | st => exact Nat.le_add_left _ _
          omega
      have dp : PyData.depthAll os ≤ 3 * k := depthA_le fun d hd => (ih d hd).2
      refine ⟨?_, ?_⟩
      · show (PyData.canLay0 (.str "step") && (q.canLay0 && (PyData.canLay0 (.tuple os) && true))) = true
        rw [show PyData.canLay0 (.tuple os) = true from layA_of fun d hd => (ih d hd).1, (fr_depth fq).2]
        decide +kernel
      · show (max (PyData.depth (.str "step")) (max q.depth (max (PyData.depthAll os + 1) 0)) + 1) + 1 ≤ _
        have : PyData.depth (.str "step") = 0 := rfl
        have := (fr_depth fq).1
        omega
theorem tm_shaped {k S N n : Nat} {d : PyData} (h : Tm k d S N n) (hd : d.depth ≤ 64) : SeqAt.shaped d = true := by
  unfold SeqAt.shaped
  rw [(tm_lay h).1, decide_eq_true hd]
  rfl
/-! ### no item passes the test: an empty list -/
section
variable {K : PySem.W.Frag} {p : Addr}
theorem lc_none {J : It} {n : Nat} {sq : Hp → Prop} {Y : Nat → Hp → V → Hp → Prop} {g : TG} {tt : TT} {te : TE} {vs : List Nat} {σ : L2.St} {H1 : Hp} {D : Addr} {Qd : Hp → Prop} (w : Walk J n sq Y) (hsq : ∀ G, Ex H1 G → sq G) (nD : H1 D = none)
    (he : ∀ (i : Nat) (x : V) (G G' : Hp) (C : L2.St → Hp → Prop), i < n → Ex H1 G → Y i G x G' → (∀ σ2 G2, wipe σ2 vs = wipe σ vs → Ex G G2 → EvT tt σ2 G2 false → C σ2 G2) → g x (wipe σ vs) G' C)
    (hd : ∀ G, Ex H1 G → G D = some (.lst []) → Qd G) :
    ∃ W : Nat → Nat → Hp → Prop, (∃ m, W 0 m (upd H1 D (.lst []))) ∧ ∀ i m H, W i m H →
      (J.stop i H ∧ Qd H) ∨ (J.go i H ∧ ∃ Nx : Hp → Prop, (∀ H', Nx H' → ∃ m', m' < m ∧ W (i + 1) m' H') ∧ ∀ x H', J.yld i H x H' → g x (wipe σ vs) H' fun σ2 H2 => wipe σ2 vs = wipe σ vs ∧ tt σ2 H2 fun b H3 =>
        if b = true then te σ2 H3 fun y H4 => ∃ acc, H4 D = some (.lst acc) ∧ acc.length < sizeLine ∧ Nx (upd H4 D (.lst (acc ++ [y]))) else Nx H3) := by
  refine lc_it w (fun i G => Ex H1 G ∧ G D = some (.lst [])) ⟨Ex.new nD, upd_same⟩ (fun i G _ h => hsq G h.1) ?_ ?_
  · rintro i x G G' hi ⟨ex, hz⟩ hy
    refine he i x G G' _ hi ex hy fun σ2 G2 w2 g2 ev => ⟨w2, ?_⟩
    refine ev _ (Ex.refl _) _ fun H4 e4 => ?_
    exact iteF ⟨ex.trans (g2.trans e4), e4 _ _ (g2 _ _ hz)⟩
  · rintro G ⟨ex, hz⟩
    exact hd G ex hz
def EmptyL (v : V) (H : Hp) : Prop := ∃ D, v = .ref D ∧ H D = some (.lst [])
/-- over a tuple's items, none of which passes -/
theorem ep_none {te0 te : TE} {tt : TT} {j : Nat} {vs : List Nat} {σ : L2.St} {H : Hp} {ds : List PyData} (h0 : EvP te0 σ H fun x H' => Dq K p H' x (.tuple ds)) (hw : ∀ x, wipe ((wipe σ vs).set j (some x)) vs = wipe σ vs)
    (he : ∀ (i : Nat) (x : V) (d : PyData) (G : Hp), ds[i]? = some d → Ex H G → Dq K p G x d → EvT tt ((wipe σ vs).set j (some x)) G false) :
    EvP (tLc (iTup K te0) (gName j) tt te vs) σ H EmptyL := fun H1 e1 Q k => by
  refine h0 H1 e1 _ fun x H2 e2 q => ?_
  obtain ⟨a, xs, rfl, hS, hA⟩ := q.seq
  have xl := hA.len
  refine ⟨a, rfl, ⟨_, hS⟩, fun D nD => ?_⟩
  refine lc_none (walk_tup (K := K) (a := a) (xs := xs)) (fun G h => ex_t h hS) nD (fun i x G G' C hi g0 hy hC => ?_) fun G g0 hz => k (.ref D) G (e2.trans g0) ⟨D, rfl, hz⟩
  obtain ⟨rfl, hx⟩ := hy
  obtain ⟨d, hdi⟩ : ∃ d, ds[i]? = some d := ⟨_, List.getElem?_eq_getElem (by omega)⟩
  obtain ⟨x', hx', qx⟩ := hA.get hdi
  rw [hx] at hx'
  cases hx'
  exact n_name (hC _ _ (hw x) (Ex.refl _) (he i x d _ hdi ((e1.trans e2).trans g0) (Dq.ex g0 _ _ qx)))
theorem ev_eq0 {te : TE} {σ : L2.St} {H : Hp} (h : EvP te σ H EmptyL) : Ev (tOp (rEqD K) te (tLst tNil)) σ H (.bl true) := fun H1 e1 Q k => h H1 e1 _ fun x H2 e2 q => by
  obtain ⟨D, rfl, hD⟩ := q
  exact ⟨by show 0 ≤ sizeLine; decide, fun l fl => ⟨.list [], .list [], .lst (SqL.of (Ex.new fl _ _ hD)) .nil, .lst (SqL.of upd_same) .nil, rfl, rfl, k _ (e2.trans (Ex.new fl))⟩⟩
theorem ev_ne0 {te : TE} {σ : L2.St} {H : Hp} (h : EvP te σ H EmptyL) : Ev (tOp (rNeD K) te (tLst tNil)) σ H (.bl false) := fun H1 e1 Q k => h H1 e1 _ fun x H2 e2 q => by
  obtain ⟨D, rfl, hD⟩ := q
  exact ⟨by show 0 ≤ sizeLine; decide, fun l fl => ⟨.list [], .list [], .lst (SqL.of (Ex.new fl _ _ hD)) .nil, .lst (SqL.of upd_same) .nil, rfl, rfl, k _ (e2.trans (Ex.new fl))⟩⟩
end
section
variable {K : PySem.W.Frag} {p : Addr} {σ : L2.St} {H : Hp} {v : V} {i j : Nat} {ds : List PyData} {d dj : PyData} {te : TE}
/-- an item of what evaluates to a tuple -/
theorem ed_ixP (h : EvP te σ H fun x H' => Dq K p H' x (.tuple ds)) (e : ds[j]? = some dj) : EvP (tOp (rIxT K) te (tC (.int (j : Int)))) σ H (fun x H' => Dq K p H' x dj) := fun H1 e1 Q k => h H1 e1 _ fun x H2 e2 q => by
  obtain ⟨a, xs, rfl, hS, hA⟩ := q.seq
  obtain ⟨x, hx, q⟩ := hA.get e
  exact ⟨a, xs, j, x, rfl, rfl, hS, atI_nat hx, k x H2 e2 q⟩
theorem ep_dq (h : EvP te σ H fun x H' => Dq K p H' x (.int n)) : Ev te σ H (.int n) := fun H1 e1 Q k => h H1 e1 _ fun x H2 e2 q => by
  cases q
  exact k H2 e2
theorem ed_v (h : σ[i]? = some (some v)) (hd : Dq K p H v d) : EvP (tVar i) σ H fun x H' => Dq K p H' x d := ed_var h hd
theorem ev_strEq {s t : Str} (h : EvP te σ H fun x H' => Dq K p H' x (.str s)) : Ev (tOp rEq te (tC (.str t))) σ H (.bl (decide (s = t))) := fun H1 e1 Q k => h H1 e1 _ fun x H2 e2 q => by
  cases q
  refine ⟨rfl, ?_⟩
  have e : decide (V.str s = V.str t) = decide (s = t) := by
    rw [Bool.eq_iff_iff, decide_eq_true_iff, decide_eq_true_iff]
    exact ⟨fun z => V.str.inj z, fun z => by rw [z]⟩
  rw [e]
  exact k H2 e2
theorem ev_strNe {s t : Str} (h : EvP te σ H fun x H' => Dq K p H' x (.str s)) : Ev (tOp rNe te (tC (.str t))) σ H (.bl (!decide (s = t))) := fun H1 e1 Q k => h H1 e1 _ fun x H2 e2 q => by
  cases q
  refine ⟨rfl, ?_⟩
  have e : decide (V.str s = V.str t) = decide (s = t) := by
    rw [Bool.eq_iff_iff, decide_eq_true_iff, decide_eq_true_iff]
    exact ⟨fun z => V.str.inj z, fun z => by rw [z]⟩
  rw [e]
  exact k H2 e2
end
/-! ### texts of numbers -/
def numS (n : Nat) : Str := Str.ofString (toString ((n : Nat) : Int))
theorem tl_numS (n : Nat) : TL.tl (numS n) = TL.numL n := TL.tl_num n
theorem numS_len {n k : Nat} (hk : 0 < k) (h : n < 10 ^ k) : (numS n).length ≤ k := by
  rw [TL.len_tl, tl_numS]
  exact TL.numL_len hk h
def sgnS (i : Int) : Str := if i < 0 then "-" else ""
theorem toStr_int (i : Int) : Str.ofString (toString i) = sgnS i ++ numS i.natAbs := by
  unfold sgnS
  cases i with
  | ofNat n =>
    rw [if_neg (show ¬ (Int.ofNat n < 0) from Int.not_lt.mpr (Int.natCast_nonneg n))]
    refine TL.ext_tl ?_
    rw [TL.tl_append]
    rfl
  | negSucc n =>
    rw [if_pos (show Int.negSucc n < 0 from Int.negSucc_lt_zero n)]
    refine TL.ext_tl ?_
    rw [TL.tl_append]
    have e : toString (Int.negSucc n) = "-" ++ toString (n + 1) := rfl
    rw [e, TL.tl_ofString, String.toList_append, List.map_append]
    congr 1
    have := TL.tl_ofString (toString (((n + 1 : Nat)) : Int))
    exact this.symm
/-- a fraction's text -/
def fT (q : Rat) : Str := sgnS q.num ++ numS q.num.natAbs ++ (if q.den = 1 then ("" : Str) else "/" ++ numS q.den)
theorem elt_in {prog : Program} {w : World} {scope : Scope} {x k : Str} {j : Nat} {p1 p2 p3 : Pos} (hk : scope.kind = .function) (hl : scope.names.lookup x = some .local) (hd : (x == ("__debug__" : Str)) = false := by decide) :
    GxR.EltP prog w scope x (.Compare (.Name x p1) [.In] [.Constant (.str k) j p2] p3) (fun c => decide (c ∈ k.cps.toList)) := by
  intro cenv A' E' c t s₂ m₂ hs hn hm
  refine wpAny_Compare1 ?_
  refine wpAny_Name (wpAny_loadName_local (by rw [hs]; exact hk) (show cenv.scope.names.lookup x = some .local by rw [hs]; exact hl) hn hm ?_) hd
  refine Calls.Constant_str ?_
  refine PyProof.Rows.in_str ⟨?_, GxR.keeps_tok _ _⟩
  rw [PySem.StrLaws.found_one k c]
def digB (c : Nat) : Bool := decide (c ∈ ("0123456789" : Str).cps.toList)
/-- figures -/
def figB (x : Str) : Bool := (decide (1 ≤ x.length) && decide (x.length ≤ 12)) && (!(decide (x.cps[0]? = some 48) && !decide (x = "0")) && x.cps.toList.all digB)
theorem dig_all {l : List Nat} (h : PySem.NumText.AllDigits l) : l.all digB = true := by
  rw [List.all_eq_true]
  intro c hc
  have := h c hc
  have e : ∀ c : Fin 58, 48 ≤ c.val → digB c.val = true := by decide +kernel
  exact e ⟨c, by omega⟩ this.1
theorem numL_head : ∀ n : Nat, n ≠ 0 → ∃ c r, TL.numL n = c :: r ∧ c ≠ 48 := fun n => by
  induction n using Nat.strongRecOn with
  | ind n ih =>
    intro hn
    by_cases h : n < 10
    · exact ⟨48 + n, [], TL.numL_lt h, by omega⟩
    · obtain ⟨c, r, e, h1⟩ := ih (n / 10) (by omega) (by omega)
      exact ⟨c, r ++ [48 + n % 10], by rw [TL.numL_step (by omega), e]; rfl, h1⟩
theorem numS_zero : numS 0 = "0" := by decide +kernel
theorem numS_head {n : Nat} (h : n ≠ 0) : (numS n).cps[0]? ≠ some 48 := by
  obtain ⟨c, r, e, h1⟩ := numL_head n h
  have : (numS n).cps.toList = c :: r := (tl_numS n).trans e
  rw [← Array.getElem?_toList, this]
  simp [h1]
theorem numS_pos (n : Nat) : 1 ≤ (numS n).length := by
  rw [TL.len_tl, tl_numS]
  have := TL.numL_ne n
  cases h : TL.numL n with
  | nil => exact absurd h this
  | cons c r => simp
theorem fig_num {n : Nat} (h : n < 10 ^ 12) : figB (numS n) = true := by
  unfold figB
  rw [decide_eq_true (numS_pos n), decide_eq_true (numS_len (by decide) h), show (numS n).cps.toList = TL.numL n from tl_numS n, dig_all (TL.numL_digits n)]
  by_cases h0 : n = 0
  · rw [h0, numS_zero]
    decide +kernel
  · rw [decide_eq_false (numS_head h0)]
    rfl
theorem ifT' {c : Bool} {A B : Prop} (h : c = true) (x : A) : if c = true then A else B := by
  rw [h]
  exact iteT x
theorem ifF' {c : Bool} {A B : Prop} (h : c = false) (x : B) : if c = true then A else B := by
  rw [h]
  exact iteF x
theorem log60 {n : Nat} (h : n < 10 ^ 60) : ((n : Nat) : Int).natAbs.log2 < 1920 := by
  rw [Int.natAbs_natCast]
  exact log_lt (b := 200) (Nat.lt_of_lt_of_le h (by decide +kernel)) (by decide) (by decide)
/-! ### figures, format_fraction, are_figures -/
section
variable {P : Program} {w : World} {K : PySem.W.Frag} {mg : Str → Option Value} {base : Heap}
def spFigs : Sp := fun vs H Q _ => ∃ n : Nat, vs = [.int (n : Int)] ∧ n < 10 ^ 60 ∧ ∀ H', Ex H H' → Q (.str (numS n)) H'
end
/-! ### format_fraction -/
section
variable {σ : L2.St} {H : Hp} {ta tb : TE} {x y : Str}
theorem ev_catS (ha : Ev ta σ H (.str x)) (hb : Ev tb σ H (.str y)) (h : x.length + y.length ≤ sizeLine) : Ev (tOp (fun x y H Q => ∃ i j, x = .str i ∧ y = .str j ∧ i.length + j.length ≤ sizeLine ∧ Q (.str (i ++ j)) H) ta tb) σ H (.str (x ++ y)) := fun H1 e Q k =>
  ha H1 e _ fun H2 e2 => hb H2 (e.trans e2) _ fun H3 e3 => ⟨x, y, rfl, rfl, h, k H3 (e2.trans e3)⟩
theorem ep_if {tt : TT} {c : Bool} {P : V → Hp → Prop} (h : EvT tt σ H c) (h1 : c = true → EvP ta σ H P) (h2 : c = false → EvP tb σ H P) : EvP (tIf tt ta tb) σ H P := fun H1 e Q k => h H1 e _ fun H2 e2 => by
  cases c with
  | true =>
    refine iteT ?_
    exact h1 rfl H2 (e.trans e2) Q fun v H3 e3 q => k v H3 (e2.trans e3) q
  | false =>
    refine iteF ?_
    exact h2 rfl H2 (e.trans e2) Q fun v H3 e3 q => k v H3 (e2.trans e3) q
/-- word == a written one -/
theorem ep_ev {v : V} (h : Ev ta σ H v) : EvP ta σ H fun z _ => z = v := fun H1 e Q k => h H1 e _ fun H2 e2 => k v H2 e2 rfl
theorem pow199 : (2 : Nat) ^ 199 < 10 ^ 60 := by decide +kernel
theorem len_lit (s : String) (n : Nat) (h : (Str.ofString s).length = n) : (Str.ofString s).length ≤ n := Nat.le_of_eq h
theorem sgn_len (i : Int) : (sgnS i).length ≤ 1 := by
  unfold sgnS
  by_cases h : i < 0
  · rw [if_pos h]
    decide +kernel
  · rw [if_neg h]
    decide +kernel
def belS (q : Rat) : Str := if q.den = 1 then ("" : Str) else "/" ++ numS q.den
theorem fT_eq (q : Rat) : fT q = sgnS q.num ++ numS q.num.natAbs ++ belS q := rfl
theorem bel_len {q : Rat} (h : q.den < 10 ^ 60) : (belS q).length ≤ 61 := by
  unfold belS
  by_cases c : q.den = 1
  · rw [if_pos c]
    decide +kernel
  · rw [if_neg c, Str.length_append]
    have := numS_len (k := 60) (by decide) h
    have e : (Str.ofString "/").length = 1 := by decide +kernel
    omega
theorem fT_len {q : Rat} {b : Nat} (h : Bd b q) (hb : b ≤ 199) : (fT q).length ≤ 122 := by
  have p : 2 ^ b ≤ 2 ^ 199 := Nat.pow_le_pow_right (by decide) hb
  have := pow199
  have h1 := numS_len (n := q.num.natAbs) (k := 60) (by decide) (by have := h.1; omega)
  have h2 := bel_len (q := q) (by have : q.den < 2 ^ b := h.2; omega)
  have h3 := sgn_len q.num
  rw [fT_eq, Str.length_append, Str.length_append]
  omega
end
section
variable {P : Program} {w : World} {K : PySem.W.Frag} {mg : Str → Option Value} {base : Heap}
def spFmt (K : PySem.W.Frag) : Sp := fun vs H Q _ => ∃ (v : V) (b : Nat) (q : Rat), vs = [v] ∧ Fr K b q v H ∧ b ≤ 199 ∧ ∀ H', Ex H H' → Q (.str (fT q)) H'
end
/-! ### the words of terms -/
def fstD : PyData → PyData
  | .tuple [w, _] => w
  | _ => .none
abbrev wStep : Str := "step"
abbrev wAll : Str := "all"
abbrev wEnd : Str := "end"
abbrev wMix : Str := "mix"
abbrev wO : Str := "("
abbrev wC : Str := ")"
def tw : Nat → PyData → List Str
  | 0, _ => []
  | k + 1, d => match d with
    | .tuple [.str s, w, .tuple os] => if s = "step" then ([wStep, fT (frQ w), wO] ++ os.flatMap (fun o => fT (frQ (fstD o)) :: tw k (sndD o))) ++ [wC] else []
    | .tuple [.str s, .tuple ts] => if s = "all" then [wAll] ++ ((wO :: ts.flatMap (tw k)) ++ [wC]) else []
    | _ => [wEnd]
def lw (k : Nat) (ts : List PyData) : List Str := (wO :: ts.flatMap (tw k)) ++ [wC]
theorem tw_e (k : Nat) : tw (k + 1) (.tuple [.str "end"]) = [wEnd] := rfl
theorem tw_al (k : Nat) (ts : List PyData) : tw (k + 1) (.tuple [.str "all", .tuple ts]) = [wAll] ++ lw k ts := by
  show (if Str.ofString "all" = Str.ofString "all" then ([wAll] ++ ((wO :: ts.flatMap (tw k)) ++ [wC]) : List Str) else []) = _
  rw [if_pos rfl]
  rfl
theorem tw_st (k : Nat) (w : PyData) (os : List PyData) : tw (k + 1) (.tuple [.str "step", w, .tuple os]) = ([wStep, fT (frQ w), wO] ++ os.flatMap (fun o => fT (frQ (fstD o)) :: tw k (sndD o))) ++ [wC] := by
  show (if Str.ofString "step" = Str.ofString "step" then (([wStep, fT (frQ w), wO] ++ os.flatMap (fun o => fT (frQ (fstD o)) :: tw k (sndD o))) ++ [wC] : List Str) else []) = _
  rw [if_pos rfl]
theorem twA_len {k : Nat} (f : ∀ {S N n : Nat} {d : PyData}, Tm k d S N n → (tw k d).length ≤ 8 * N) : ∀ {ts : List PyData} {S N : Nat} {ns : List Nat}, TmA k ts S N ns → (ts.flatMap (tw k)).length ≤ 8 * N
  | [], _, _, _, .nil => Nat.le_refl _
  | t :: ts, _, _, _, .cons (N := N1) (N' := N2) h hs => by
    have h1 := f h
    have h2 := twA_len f hs
    rw [List.flatMap_cons, List.length_append]
    omega
theorem twO_len {k : Nat} (f : ∀ {S N n : Nat} {d : PyData}, Tm k d S N n → (tw k d).length ≤ 8 * N) : ∀ {os : List PyData} {S N : Nat} {ns : List Nat}, TmA k (os.map sndD) S N ns → (os.flatMap (fun o => fT (frQ (fstD o)) :: tw k (sndD o))).length ≤ 8 * N + os.length
  | [], _, _, _, .nil => Nat.le_refl _
  | o :: os, _, _, _, .cons (N := N1) (N' := N2) h hs => by
    have h1 := f h
    have h2 := twO_len f hs
    rw [List.flatMap_cons, List.length_append, List.length_cons, List.length_cons]
    omega
theorem tw_len : ∀ {k S N n : Nat} {d : PyData}, Tm k d S N n → (tw k d).length ≤ 8 * N
  | 0, _, _, _, _, h => by cases h
  | k + 1, _, _, _, d, h => by
    cases h with
    | e =>
      rw [tw_e]
      show 1 ≤ 8
      decide
    | @al _ S N ts ns ta l2 l3 =>
      have := twA_len (fun h => tw_len h) ta
      rw [tw_al]
      unfold lw
      simp only [List.length_append, List.length_cons, List.length_nil]
      omega
    | @st _ S N w os ns fq ol ob ta =>
      have := twO_len (fun h => tw_len h) ta
      rw [tw_st, List.length_append, List.length_append, List.length_singleton]
      have e : ([wStep, fT (frQ w), wO] : List Str).length = 3 := rfl
      omega
theorem flat_take_le {α β : Type} (f : α → List β) (ts : List α) (i : Nat) {d : α} (h : ts[i]? = some d) : ((ts.take i).flatMap f).length + (f d).length ≤ (ts.flatMap f).length := by
  have e : ts.flatMap f = (ts.take i).flatMap f ++ (ts.drop i).flatMap f := by rw [← List.flatMap_append, List.take_append_drop]
  obtain ⟨hi, hd⟩ := List.getElem?_eq_some_iff.mp h
  rw [e, List.length_append, List.drop_eq_getElem_cons hi, hd, List.flatMap_cons, List.length_append]
  omega
theorem bd39 {B : Nat} {q : Rat} (fl : flatN B (frd q) = true) : Bd B q := by
  simp only [frd, flatN, flatNA, Bool.and_true, Bool.and_eq_true, decide_eq_true_eq] at fl
  exact ⟨fl.1, by have := fl.2; simpa using this⟩
theorem out_w {B : Nat} {o : PyData} (h : outB o = true) (f : flatN B o = true) : fstD o = frd (frQ (fstD o)) ∧ Bd B (frQ (fstD o)) ∧ flatN B (sndD o) = true := by
  obtain ⟨w, z, rfl⟩ := outB_two h
  have hb : frB w = true := by
    simp only [outB, posB, Bool.and_eq_true] at h
    exact h.1
  have e := frB_iff hb
  simp only [flatN, flatNA, Bool.and_true, Bool.and_eq_true] at f
  refine ⟨e, bd39 ?_, f.2⟩
  show flatN B (frd (frQ w)) = true
  rw [← e]
  exact f.1
theorem flatM_mem {B : Nat} : ∀ {ds : List PyData} {d : PyData}, flatNA B ds = true → d ∈ ds → flatN B d = true
  | [], _, _, h => nomatch h
  | x :: ds, d, f, h => by
    have f' : flatN B x = true ∧ flatNA B ds = true := by simpa [flatNA] using f
    rcases List.mem_cons.mp h with rfl | h
    · exact f'.1
    · exact flatM_mem f'.2 h
/-- an outcome, its two -/
theorem dq_out {K : PySem.W.Frag} {p : Addr} {H : Hp} {x : V} {o : PyData} (h : outB o = true) (q : Dq K p H x o) : ∃ c z1 z2, x = .ref c ∧ SqT K H c [z1, z2] ∧ Dq K p H z1 (fstD o) ∧ Dq K p H z2 (sndD o) := by
  have e : o = .tuple [fstD o, sndD o] := by
    obtain ⟨w, d, rfl⟩ := outB_two h
    rfl
  rw [e] at q
  obtain ⟨c, ws, rfl, hS, hA⟩ := q.seq
  obtain ⟨z1, z2, rfl⟩ : ∃ z1 z2, ws = [z1, z2] := by
    have := hA.len
    match ws, this with
    | [z1, z2], _ => exact ⟨z1, z2, rfl⟩
  cases hA with
  | cons h1 h2 =>
    cases h2 with
    | cons h2 _ => exact ⟨c, z1, z2, rfl, hS, h1, h2⟩
def spTw (K : PySem.W.Frag) (k : Nat) : Sp := fun vs H Q _ => ∃ (p : Addr) (v : V) (d : PyData) (S N n : Nat), vs = [v] ∧ Dq K p H v d ∧ Tm k d S N n ∧ flatN 128 d = true ∧ N ≤ 96 ∧
  ∀ l H', Ex H H' → H l = none → H' l = some (.lst ((tw k d).map V.str)) → Q (.ref l) H'
def spLw (K : PySem.W.Frag) (k : Nat) : Sp := fun vs H Q _ => ∃ (p : Addr) (v : V) (ts : List PyData) (S N : Nat) (ns : List Nat), vs = [v] ∧ Dq K p H v (.tuple ts) ∧ TmA k ts S N ns ∧ flatNA 128 ts = true ∧ N ≤ 96 ∧
  ∀ l H', Ex H H' → H l = none → H' l = some (.lst ((lw k ts).map V.str)) → Q (.ref l) H'
/-! ### texts of terms and mixes -/
theorem so_all {x : Str} : PyData.strOk x = true ↔ ∀ c ∈ x.cps.toList, c < 0x110000 := by
  unfold PyData.strOk
  rw [← Array.all_toList, List.all_eq_true]
  constructor
  · exact fun h c hc => of_decide_eq_true (h c hc)
  · exact fun h c hc => decide_eq_true (h c hc)
theorem so_app {x y : Str} (h : PyData.strOk x = true) (h' : PyData.strOk y = true) : PyData.strOk (x ++ y) = true := by
  rw [so_all] at *
  intro c hc
  have e : (x ++ y).cps.toList = x.cps.toList ++ y.cps.toList := by
    show (x.cps ++ y.cps).toList = _
    rw [Array.toList_append]
  rw [e] at hc
  rcases List.mem_append.mp hc with hc | hc
  · exact h c hc
  · exact h' c hc
theorem so_str (s : String) : PyData.strOk (s : Str) = true := by
  rw [so_all]
  intro c hc
  rw [show ((s : Str)) = ⟨(s.toList.map Char.toNat).toArray⟩ from Str.ofString_eq_toList s] at hc
  simp only [List.mem_map] at hc
  obtain ⟨d, _, rfl⟩ := hc
  have := d.valid
  unfold UInt32.isValidChar Nat.isValidChar at this
  show d.val.toNat < 0x110000
  omega
def WordOk (x : Str) : Prop := x.length ≤ 122 ∧ (32 : Nat) ∉ TL.tl x ∧ PyData.strOk x = true
theorem word_num (n : Nat) : (32 : Nat) ∉ TL.tl (numS n) := by
  rw [tl_numS]
  exact TL.numL_free (.inl (by decide))
theorem word_fT {q : Rat} {b : Nat} (h : Bd b q) (hb : b ≤ 199) : WordOk (fT q) := by
  refine ⟨fT_len h hb, ?_, ?_⟩
  rotate_left
  · refine so_app (so_app ?_ (so_str _)) ?_
    · unfold sgnS
      by_cases c : q.num < 0
      · rw [if_pos c]
        exact so_str _
      · rw [if_neg c]
        exact so_str _
    · by_cases c : q.den = 1
      · rw [if_pos c]
        exact so_str _
      · rw [if_neg c]
        exact so_app (so_str _) (so_str _)
  rw [fT_eq, TL.tl_append, TL.tl_append]
  intro hm
  rcases List.mem_append.mp hm with hm | hm
  · rcases List.mem_append.mp hm with hm | hm
    · unfold sgnS at hm
      by_cases c : q.num < 0
      · rw [if_pos c] at hm
        revert hm
        decide +kernel
      · rw [if_neg c] at hm
        revert hm
        decide +kernel
    · exact word_num _ hm
  · unfold belS at hm
    by_cases c : q.den = 1
    · rw [if_pos c] at hm
      revert hm
      decide +kernel
    · rw [if_neg c, TL.tl_append] at hm
      rcases List.mem_append.mp hm with hm | hm
      · revert hm
        decide +kernel
      · exact word_num _ hm
theorem wk_step : WordOk wStep := by unfold WordOk; decide +kernel
theorem wk_all : WordOk wAll := by unfold WordOk; decide +kernel
theorem wk_end : WordOk wEnd := by unfold WordOk; decide +kernel
theorem wk_mix : WordOk wMix := by unfold WordOk; decide +kernel
theorem wk_o : WordOk wO := by unfold WordOk; decide +kernel
theorem wk_c : WordOk wC := by unfold WordOk; decide +kernel
theorem tw_ok : ∀ {k S N n : Nat} {d : PyData}, Tm k d S N n → flatN 128 d = true → ∀ x ∈ tw k d, WordOk x
  | 0, _, _, _, _, h, _, _, _ => by cases h
  | k + 1, _, _, _, d, h, fd, x, hx => by
    cases h with
    | e =>
      rw [tw_e] at hx
      rw [List.mem_singleton.mp hx]
      exact wk_end
    | @al _ S N ts ns ta l2 l3 =>
      have ft : flatNA 128 ts = true := by
        simp only [flatN, flatNA, Bool.and_true, Bool.true_and] at fd
        exact fd
      rw [tw_al] at hx
      rcases List.mem_append.mp hx with hx | hx
      · rw [List.mem_singleton.mp hx]
        exact wk_all
      rcases List.mem_append.mp hx with hx | hx
      · rcases List.mem_cons.mp hx with rfl | hx
        · exact wk_o
        · obtain ⟨t, ht, hx⟩ := List.mem_flatMap.mp hx
          obtain ⟨_, _, _, tm⟩ := tma_mem ta ht
          exact tw_ok tm (flatM_mem ft ht) x hx
      · rw [List.mem_singleton.mp hx]
        exact wk_c
    | @st _ S N w os ns fq ol ob ta =>
      have ft : flatNA 128 os = true := by
        simp only [flatN, flatNA, Bool.and_true, Bool.true_and, Bool.and_eq_true] at fd
        exact fd.2
      have fw : flatN 128 w = true := by
        simp only [flatN, flatNA, Bool.and_true, Bool.true_and, Bool.and_eq_true] at fd
        exact fd.1
      have ew := frB_iff fq
      have bw : Bd 128 (frQ w) := bd39 (by rw [← ew]; exact fw)
      rw [tw_st] at hx
      rcases List.mem_append.mp hx with hx | hx
      · rcases List.mem_append.mp hx with hx | hx
        · simp only [List.mem_cons, List.not_mem_nil, or_false] at hx
          rcases hx with rfl | rfl | rfl
          · exact wk_step
          · exact word_fT bw (by decide)
          · exact wk_o
        · obtain ⟨o, ho, hx⟩ := List.mem_flatMap.mp hx
          obtain ⟨ow1, ow2, ow3⟩ := out_w (ob o ho) (flatM_mem ft ho)
          rcases List.mem_cons.mp hx with rfl | hx
          · exact word_fT ow2 (by decide)
          · obtain ⟨_, _, _, tm⟩ := tma_mem ta (List.mem_map.mpr ⟨o, ho, rfl⟩)
            exact tw_ok tm ow3 x hx
      · rw [List.mem_singleton.mp hx]
        exact wk_c
theorem lw_ok {k S N : Nat} {ts : List PyData} {ns : List Nat} (ta : TmA k ts S N ns) (ft : flatNA 128 ts = true) : ∀ x ∈ lw k ts, WordOk x := fun x hx => by
  rcases List.mem_append.mp hx with hx | hx
  · rcases List.mem_cons.mp hx with rfl | hx
    · exact wk_o
    · obtain ⟨t, ht, hx⟩ := List.mem_flatMap.mp hx
      obtain ⟨_, _, _, tm⟩ := tma_mem ta ht
      exact tw_ok tm (flatM_mem ft ht) x hx
  · rw [List.mem_singleton.mp hx]
    exact wk_c
theorem sum_len {ws : List Str} (h : ∀ x ∈ ws, WordOk x) : (ws.map (·.length)).sum ≤ 122 * ws.length := by
  induction ws with
  | nil => exact Nat.le_refl _
  | cons x ws ih =>
    have h1 := (h x List.mem_cons_self).1
    have h2 := ih fun y hy => h y (List.mem_cons_of_mem _ hy)
    simp only [List.map_cons, List.sum_cons, List.length_cons]
    omega
/-- joined with blanks -/
def jn (ws : List Str) : Str := Str.join " " ws
theorem jn_len {ws : List Str} (h : ∀ x ∈ ws, WordOk x) : (jn ws).length ≤ 123 * ws.length := by
  have h1 := StrLaws.join_length_le (" " : Str) ws
  have h2 := sum_len h
  have e : (Str.ofString " ").length = 1 := by decide +kernel
  rw [e] at h1
  unfold jn
  omega
theorem jn_split {ws : List Str} (h : ∀ x ∈ ws, WordOk x) (ne : ws ≠ []) : Txt.split (jn ws) " " = ws := by
  have e : TL.tl (Str.ofString " ") = [32] := by decide +kernel
  have := TL.split_join (y := (" " : Str)) (s := 32) (S := []) e (by decide +kernel) ne (fun p hp => (h p hp).2.1)
  rw [TL.join_eq] at this
  exact this
theorem jn_ok : ∀ {ws : List Str}, (∀ x ∈ ws, WordOk x) → PyData.strOk (jn ws) = true
  | [], _ => so_all.mpr fun c hc => by simp [jn, Str.join, Str.empty] at hc
  | [t], hs => (hs t List.mem_cons_self).2.2
  | t :: u :: ts, hs => by
    show PyData.strOk (t ++ " " ++ jn (u :: ts)) = true
    exact so_app (so_app (hs t List.mem_cons_self).2.2 (so_str _)) (jn_ok (ws := u :: ts) fun v hv => hs v (List.mem_cons_of_mem _ hv))
theorem tw_ne {k S N n : Nat} {d : PyData} (h : Tm k d S N n) : tw k d ≠ [] := by
  cases h with
  | e => rw [tw_e]; exact List.cons_ne_nil _ _
  | al _ _ _ => rw [tw_al]; exact List.cons_ne_nil _ _
  | st _ _ _ _ => rw [tw_st]; exact List.cons_ne_nil _ _
/-- the same words, however deep one looks -/
theorem tw_up1 : ∀ {k S N n : Nat} {d : PyData}, Tm k d S N n → tw (k + 1) d = tw k d
  | 0, _, _, _, _, h => by cases h
  | k + 1, _, _, _, d, h => by
    cases h with
    | e => rfl
    | @al _ S N ts ns ta l2 l3 =>
      rw [tw_al, tw_al]
      have e : ts.flatMap (tw (k + 1)) = ts.flatMap (tw k) := by
        rw [List.flatMap_def, List.flatMap_def]
        congr 1
        exact List.map_congr_left fun t ht => by
          obtain ⟨_, _, _, tm⟩ := tma_mem ta ht
          exact tw_up1 tm
      unfold lw
      rw [e]
    | @st _ S N w os ns fq ol ob ta =>
      rw [tw_st, tw_st]
      have e : os.flatMap (fun o => fT (frQ (fstD o)) :: tw (k + 1) (sndD o)) = os.flatMap (fun o => fT (frQ (fstD o)) :: tw k (sndD o)) := by
        rw [List.flatMap_def, List.flatMap_def]
        congr 1
        exact List.map_congr_left fun o ho => by
          obtain ⟨_, _, _, tm⟩ := tma_mem ta (List.mem_map.mpr ⟨o, ho, rfl⟩)
          rw [tw_up1 tm]
      rw [e]
theorem tw_up {k j S N n : Nat} {d : PyData} (h : Tm k d S N n) (l : k ≤ j) : tw j d = tw k d := by
  obtain ⟨i, rfl⟩ : ∃ i, j = k + i := ⟨j - k, by omega⟩
  clear l
  induction i with
  | zero => rfl
  | succ i ih =>
    rw [← ih]
    exact tw_up1 (h.le (Nat.le_add_right k i))
/-- terms, not too large -/
def Gf (B : Nat) (d : PyData) : Prop := flatN B d = true ∧ ∃ S N n, Tm 30 d S N n ∧ S ≤ 16 ∧ N ≤ 48
abbrev Gt : PyData → Prop := Gf 39
theorem Gf.up {B B' : Nat} {d : PyData} (l : B ≤ B') (h : Gf B d) : Gf B' d := ⟨flat_up l h.1, h.2⟩
def Gm (ds : List PyData) : Prop := flatDA ds = true ∧ 1 ≤ ds.length ∧ ds.length ≤ 4 ∧ (∀ d ∈ ds, Gt d) ∧ ∃ S N ns, TmA 30 ds S N ns ∧ S ≤ 16 ∧ N ≤ 96
theorem le_dec {a : Nat} {b : Nat} : decide ((a : Int) ≤ (b : Int)) = decide (a ≤ b) := by
  rw [Bool.eq_iff_iff, decide_eq_true_iff, decide_eq_true_iff]
  omega
/-! ### are_figures, parse_fraction -/
theorem tts_m2 {K : PySem.W.Frag} {mg : Str → Option Value} (T : Txt K mg) : T.P_are_figures ∈ (tts T).1 := by simp
theorem ev_lenS {σ : L2.St} {H : Hp} {x : Str} {i : Nat} (h : σ[i]? = some (some (.str x))) (l : x.length ≤ 1000) : Ev (tCB (fun xs H Q => ∃ z, xs = [V.str z] ∧ z.length ≤ sizeLine ∧ Q (V.int z.length) H) (tCons (tVar i) tNil)) σ H (.int (x.length : Nat)) := fun H1 e Q k =>
  ⟨_, h, x, rfl, Nat.le_trans l (by decide), k H1 (Ex.refl _)⟩
theorem ev_ix0 {σ : L2.St} {H : Hp} {x : Str} {c i : Nat} (h : σ[i]? = some (some (.str x))) (l : x.length ≤ 1000) (h0 : x.cps[0]? = some c) : Ev (tOp rIxS (tVar i) (tC (.int 0))) σ H (.str ⟨#[c]⟩) := fun H1 e Q k =>
  ⟨_, h, x, 0, c, rfl, rfl, Nat.le_trans l (by decide), atI_nat (j := 0) (by rw [Array.getElem?_toList]; exact h0), k H1 (Ex.refl _)⟩
theorem one_zero {c : Nat} : decide (V.str (⟨#[c]⟩ : Str) = V.str "0") = decide (c = 48) := by
  rw [Bool.eq_iff_iff, decide_eq_true_iff, decide_eq_true_iff]
  constructor
  · intro h
    injection h with h
    have : (⟨#[c]⟩ : Str).cps = (Str.ofString "0").cps := congrArg Str.cps h
    have e : (Str.ofString "0").cps = #[48] := by decide +kernel
    rw [e] at this
    simpa using this
  · rintro rfl
    have e : (Str.ofString "0") = ⟨#[48]⟩ := by decide +kernel
    show V.str _ = V.str (Str.ofString "0")
    rw [e]
section
variable {P : Program} {w : World} {K : PySem.W.Frag} {mg : Str → Option Value} {base : Heap}
def spFig (Ts : TbS) : Sp := fun vs H Q _ => ∃ x : Str, vs = [.str x] ∧ x.length ≤ 1000 ∧ TBs Ts H ∧ ∀ H', ExT H H' → TBs Ts H' → Q (.bl (figB x)) H'
theorem ok_are_figures (T : Txt K mg) (tb_are_figures : GxR.TabB base mg T.c_are_figures T.P_are_figures) : FnOk P w K mg base CX0 1 T.d_are_figures.a T.d_are_figures.fd ["word"] (spFig (tts T)) := by
  refine okC T.d_are_figures.F T.h_are_figures sc_are_figures (fun vs H Q E h => ?_) (fun A outer s H vs Q E hr h => ?_)
  · obtain ⟨x, rfl, _⟩ := h
    rfl
  · obtain ⟨x, rfl, hx, ht, kk⟩ := h
    refine ⟨_, (pss_cons (ps_if (PW.pt (pw_or (pt_not (pt_chain op_le op_le pe_int (pe_callB call_len_str (by rfl) T.n_len (by decide +kernel) (pa_cons (pv 0) pa_nil)) (pe_glob (v := .int 12) rfl T.c_MOST_FIGURES ⟨_, rfl⟩))) (pw_or1 (PW.pt (pw_and (pt_cmpR op_eq (pe_ix ix_str (pv 0) pe_int (fun _ _ => rfl)) pe_str (nomark _)) (pw_and1 (pt_cmpR op_ne (pv 0) pe_str (nomark _)))))))) (pss_one (ps_ret pe_bl)) pss_nil)
      (pss_one (ps_ret (GxR.pe_allS hr (by rfl) T.n_all (by decide +kernel) tb_are_figures rfl ⟨rfl, rfl, by decide, rfl, rfl, by intro y hy hf; exfalso; revert hf; revert y; decide⟩ (pv 0) (elt_in rfl rfl) (fun _ => rfl))))), ?_⟩
    refine n_seq ?_
    have ch : ∀ {G : Hp}, Ev (tChain (rI0 fun i j => V.bl (decide (i ≤ j))) (rI0 fun i j => V.bl (decide (i ≤ j))) (tC (V.int 1)) (tCB (fun xs H Q => ∃ z, xs = [V.str z] ∧ z.length ≤ sizeLine ∧ Q (V.int z.length) H) (tCons (tVar 0) tNil)) (tC (V.int 12))) [some (.str x), none] G (.bl (decide (1 ≤ x.length) && decide (x.length ≤ 12))) := fun {G} => by
      refine ev_chain ev_c (ev_lenS rfl hx) ev_c (fun H => ?_) fun H => ?_
      · have := rv_I0 (H := H) (g := fun i j => .bl (decide (i ≤ j))) (i := ((1 : Nat) : Int)) (j := (x.length : Int))
        rw [le_dec] at this
        exact this
      · have := rv_I0 (H := H) (g := fun i j => .bl (decide (i ≤ j))) (i := (x.length : Int)) (j := ((12 : Nat) : Int))
        rw [le_dec] at this
        exact this
    by_cases hl : (decide (1 ≤ x.length) && decide (x.length ≤ 12)) = true
    · have h1 : 1 ≤ x.length := by
        rw [Bool.and_eq_true, decide_eq_true_iff] at hl
        exact hl.1
      obtain ⟨c, hc⟩ : ∃ c, x.cps[0]? = some c := ⟨_, Array.getElem?_eq_getElem (by exact h1)⟩
      have ne0 : ∀ {G : Hp}, EvT (tTest (tOp rNe (tVar 0) (tC (V.str (Str.ofString "0"))))) [some (.str x), none] G (!decide (V.str x = V.str "0")) := fun {G} => et_test (ev_op (ev_var rfl) ev_c (rv_ne rfl))
      refine s_if (b := decide (c = 48) && !decide (x = "0")) (et_is (et_or (a := false) (b := decide (c = 48) && !decide (x = "0")) (et_is (et_not (et_test ch)) (by rw [hl]; rfl)) fun _ => et_is (et_and (a := decide (c = 48)) (b := !decide (x = "0")) (et_is (et_test (ev_op (ev_ix0 rfl hx hc) ev_c (rv_eq rfl))) one_zero) fun _ => et_is ne0 (by
        congr 1
        rw [Bool.eq_iff_iff, decide_eq_true_iff, decide_eq_true_iff]
        exact ⟨fun h => by injection h, fun h => by rw [h]⟩)) rfl) rfl) (fun hcs H1 e1 => ?_) (fun hcs H1 e1 => ?_)
      · have e : figB x = false := by
          unfold figB
          rw [hc, show decide (some c = some 48) = decide (c = 48) from by simp, hcs]
          exact Bool.and_false _
        have := kk H1 (Ex.t e1) (ht.ex e1)
        rw [e] at this
        exact this
      · have e : figB x = x.cps.toList.all digB := by
          unfold figB
          rw [hl, hc, show decide (some c = some 48) = decide (c = 48) from by simp, hcs]
          rfl
        refine n_next ?_
        have t1 := ht.ex e1
        refine ⟨_, rfl, x, rfl, t1.g _ (tts_m2 T), fun H2 tb2 => ?_⟩
        have := kk H2 ((Ex.t e1).trans (Tabd.t (t1.g _ (tts_m2 T)) tb2)) (t1.tb tb2 (tts_m2 T))
        rw [e] at this
        exact this
    · have hl' : (decide (1 ≤ x.length) && decide (x.length ≤ 12)) = false := by simpa using hl
      refine s_if (b := true) (et_is (et_or (a := true) (b := true) (et_is (et_not (et_test ch)) (by rw [hl']; rfl)) fun z => nomatch z) rfl) (fun _ H1 e1 => ?_) fun z => nomatch z
      have e : figB x = false := by
        unfold figB
        rw [hl']
        rfl
      have := kk H1 (Ex.t e1) (ht.ex e1)
      rw [e] at this
      exact this
end
/-! ### parse_fraction -/
theorem tl_w (s : String) (l : List Nat) (h : TL.tl (Str.ofString s) = l) : TL.tl (Str.ofString s) = l := h
theorem slash_app {a b : Str} (h : (47 : Nat) ∉ TL.tl a) : Txt.partition (a ++ "/" ++ b) "/" = (a, Str.ofString "/", b) :=
  TL.partition_app (s := 47) (S := []) (show TL.tl (Str.ofString "/") = [47] by decide +kernel) h
theorem slash_none {a : Str} (h : (47 : Nat) ∉ TL.tl a) : Txt.partition a "/" = (a, Str.empty, Str.empty) :=
  TL.partition_none (s := 47) (S := []) (show TL.tl (Str.ofString "/") = [47] by decide +kernel) h
/-- ahead of the slash -/
def topS' (i : Int) : Str := sgnS i ++ numS i.natAbs
theorem tl_sgn (i : Int) : TL.tl (sgnS i) = if i < 0 then [45] else [] := by
  unfold sgnS
  by_cases h : i < 0
  · rw [if_pos h, if_pos h]
    decide +kernel
  · rw [if_neg h, if_neg h]
    decide +kernel
theorem tl_top (i : Int) : TL.tl (topS' i) = (if i < 0 then [45] else []) ++ TL.numL i.natAbs := by
  unfold topS'
  rw [TL.tl_append, tl_sgn, tl_numS]
theorem top_free (i : Int) : (47 : Nat) ∉ TL.tl (topS' i) := by
  rw [tl_top]
  intro hm
  rcases List.mem_append.mp hm with hm | hm
  · by_cases h : i < 0
    · rw [if_pos h] at hm
      simp at hm
    · rw [if_neg h] at hm
      simp at hm
  · exact TL.numL_free (.inl (by decide)) hm
theorem part_fT (q : Rat) : Txt.partition (fT q) "/" = (topS' q.num, (if q.den = 1 then Str.empty else Str.ofString "/"), if q.den = 1 then Str.empty else numS q.den) := by
  rw [fT_eq]
  unfold belS
  by_cases c : q.den = 1
  · rw [if_pos c, if_pos c, if_pos c]
    have e : sgnS q.num ++ numS q.num.natAbs ++ (Str.ofString "") = topS' q.num := by
      refine TL.ext_tl ?_
      rw [TL.tl_append, show TL.tl (Str.ofString "") = [] by decide +kernel, List.append_nil]
      rfl
    rw [e]
    exact slash_none (top_free _)
  · rw [if_neg c, if_neg c, if_neg c]
    have e : sgnS q.num ++ numS q.num.natAbs ++ (Str.ofString "/" ++ numS q.den) = topS' q.num ++ "/" ++ numS q.den := by
      refine TL.ext_tl ?_
      unfold topS'
      rw [TL.tl_append, TL.tl_append, TL.tl_append, TL.tl_append, TL.tl_append, TL.tl_append]
      simp only [List.append_assoc]
    rw [e]
    exact slash_app (top_free _)
theorem unsign (i : Int) : Txt.removeprefix (topS' i) "-" = numS i.natAbs := by
  have e1 : (Str.ofString "-").cps.toList = [45] := by decide +kernel
  have e2 : (Str.ofString "-").length = 1 := by decide +kernel
  have et : (topS' i).cps.toList = (if i < 0 then [45] else []) ++ TL.numL i.natAbs := tl_top i
  have el : (topS' i).length = ((if i < 0 then [45] else []) ++ TL.numL i.natAbs).length := by
    rw [← et]
    simp [Str.length]
  rw [StrLaws.removeprefix_eq, StrLaws.subAt_eq, e1, e2, et, el]
  by_cases h : i < 0
  · rw [if_pos h]
    have c : (decide (0 + 1 ≤ ([45] ++ TL.numL i.natAbs).length) && (List.take 1 (List.drop 0 ([45] ++ TL.numL i.natAbs)) == [45])) = true := by simp
    rw [if_pos c]
    refine TL.ext_tl ?_
    rw [tl_numS]
    show List.take _ (TL.numL i.natAbs) = _
    simp
  · rw [if_neg h]
    have c : ¬ (decide (0 + 1 ≤ (([] : List Nat) ++ TL.numL i.natAbs).length) && (List.take 1 (List.drop 0 (([] : List Nat) ++ TL.numL i.natAbs)) == [45])) = true := by
      cases hn : TL.numL i.natAbs with
      | nil => simp
      | cons d r =>
        have hd := TL.numL_digits i.natAbs d (by rw [hn]; simp)
        simp
        omega
    rw [if_neg c]
    unfold topS' sgnS
    rw [if_neg h]
    refine TL.ext_tl ?_
    rw [TL.tl_append, show TL.tl (Str.ofString "") = [] by decide +kernel, List.nil_append]
theorem not_mz (i : Int) : topS' i ≠ "-0" := by
  intro h
  have := congrArg TL.tl h
  rw [tl_top, show TL.tl (Str.ofString "-0") = [45, 48] by decide +kernel] at this
  by_cases c : i < 0
  · rw [if_pos c] at this
    have e : TL.numL i.natAbs = TL.numL 0 := by
      rw [TL.numL_lt (n := 0) (by decide)]
      simpa using this
    have := TL.numL_inj e
    omega
  · rw [if_neg c] at this
    have hd := TL.numL_digits i.natAbs 45 (by
      have t : TL.numL i.natAbs = [45, 48] := by simpa using this
      rw [t]
      simp)
    omega
theorem not_one {n : Nat} (h : n ≠ 1) : numS n ≠ "1" := by
  intro e
  have := congrArg TL.tl e
  rw [tl_numS, show TL.tl (Str.ofString "1") = [49] by decide +kernel] at this
  exact h (TL.numL_inj (this.trans (TL.numL_lt (n := 1) (by decide)).symm))
theorem int_top {i : Int} (h : i.natAbs < 10 ^ 12) : intText? (topS' i) = some i := by
  have l := TL.numL_len (n := i.natAbs) (k := 12) (by decide) h
  by_cases c : i < 0
  · have e : (topS' i).cps.toList = 45 :: TL.numL i.natAbs := by
      have := tl_top i
      rw [if_pos c] at this
      exact this
    rw [PySem.intText_neg e (TL.numL_digits _) (TL.numL_ne _) (by
      have : (topS' i).length = (topS' i).cps.toList.length := by simp [Str.length]
      rw [this, e, List.length_cons]
      omega), TL.numL_val]
    congr 1
    omega
  · have e : topS' i = numS i.natAbs := by
      unfold topS' sgnS
      rw [if_neg c]
      refine TL.ext_tl ?_
      rw [TL.tl_append, show TL.tl (Str.ofString "") = [] by decide +kernel, List.nil_append]
    rw [e]
    have := TL.int_num (n := i.natAbs) (by omega)
    rw [show numS i.natAbs = Str.ofString (toString ((i.natAbs : Nat) : Int)) from rfl, this]
    congr 1
    omega
theorem top_len {i : Int} (h : i.natAbs < 10 ^ 12) : (topS' i).length ≤ 13 := by
  have l := numS_len (n := i.natAbs) (k := 12) (by decide) h
  have := sgn_len i
  unfold topS'
  rw [Str.length_append]
  omega
/-! ### times; the law's own numbers -/
section
variable {P : Program} {w : World} {K : PySem.W.Frag} {mg : Str → Option Value} {base : Heap}
theorem Fr.dqq {p : Addr} {b : Nat} {q : Rat} {z : V} {H : Hp} (h : Fr K b q z H) : Dq K p H z (frd q) := by
  obtain ⟨a, rfl, hS, _⟩ := h
  exact .tup hS (.cons (.int _) (.cons (.int _) .nil))
theorem t_op2 {r : R2} {a b : TE} {σ : L2.St} {H : Hp} {Q : VK} (h : a σ H fun x H1 => b σ H1 fun y H2 => r x y H2 Q) : tOp r a b σ H Q := h
theorem t_cb1 {rc : List V → Hp → VK → Prop} {te : TE} {σ : L2.St} {H : Hp} {Q : VK} (h : te σ H fun x H1 => rc [x] H1 Q) : tCB rc (tCons te tNil) σ H Q := h
theorem ev_strI {te : TE} {i : Int} {σ : L2.St} {H : Hp} (h : Ev te σ H (.int i)) (b : i.natAbs < 10 ^ 60) : Ev (tCB (fun xs H Q => ∃ i : Int, xs = [.int i] ∧ i.natAbs.log2 < 1920 ∧ Q (.str (toString i)) H) (tCons te tNil)) σ H (.str (sgnS i ++ numS i.natAbs)) := fun H1 e Q k =>
  h H1 e _ fun H2 e2 => ⟨i, rfl, by
    by_cases z : i.natAbs = 0
    · rw [z]
      decide
    · rw [Nat.log2_lt z]
      exact Nat.lt_trans b (by decide +kernel), by
    rw [toStr_int]
    exact k H2 e2⟩
def spTms (K : PySem.W.Frag) : Sp := fun vs H Q _ => ∃ (u v : V) (b c : Nat) (q r : Rat), vs = [u, v] ∧ Fr K b q u H ∧ Fr K c r v H ∧ b + c + 1 ≤ 300 ∧ ∀ z H', Ex H H' → Fr K (b + c + 1) (q * r) z H' → Q z H'
theorem mul_one (x : Str) : Txt.mul x 1 = x := by
  unfold Txt.mul
  rw [if_neg (by decide)]
  simp
theorem mul_none (x : Str) : Txt.mul x 0 = "" := by
  unfold Txt.mul
  rw [if_pos (by decide)]
  rfl
theorem mulOk1 (x : Str) : MulOk x 1 := ⟨by decide, fun _ h => by simp at h, fun _ h => by simp at h⟩
theorem mulOk0 (x : Str) : MulOk x 0 := ⟨by decide, fun h => absurd (by decide) h, fun h => absurd (by decide) h⟩
theorem ok__law_number (T : Txt K mg) : FnOk P w K mg base CX0 1 T.d__law_number.a T.d__law_number.fd ["_law_value"] (spFmt K) := by
  refine T.d__law_number.F.ok sc__law_number (fun vs H Q E h => ?_) (fun cdv A outer s H vs Q E hr h => ?_)
  · obtain ⟨v, b, q, rfl, _⟩ := h
    rfl
  · obtain ⟨v, b, q, rfl, f, hb, kk⟩ := h
    refine ⟨_, (pss_one (ps_ret (pe_op op_add_str (pe_callTy call_str_int (by rfl) T.n_str (by decide +kernel) (pa_cons (pe_ix ix_tup (pv 0) pe_int (fun _ _ => rfl)) pa_nil)) (pe_op op_mulS (pe_op op_add_str pe_str (pe_callTy call_str_int (by rfl) T.n_str (by decide +kernel) (pa_cons (pe_ix ix_tup (pv 0) pe_int (fun _ _ => rfl)) pa_nil))) (pe_callTy call_int1 (by rfl) T.n_int (by decide +kernel) (pa_cons (pe_cmpR op_gt (pe_ix ix_tup (pv 0) pe_int (fun _ _ => rfl)) pe_int (nomark _)) pa_nil)))))), ?_⟩
    have bd := f.bd
    have p : 2 ^ b ≤ 2 ^ 199 := Nat.pow_le_pow_right (by decide) hb
    have p2 := pow199
    have n1 : q.num.natAbs < 10 ^ 60 := by have := bd.1; omega
    have n2 : q.den < 10 ^ 60 := by have : q.den < 2 ^ b := bd.2; omega
    have F := @ep_var K (start n__law_number [v]) H v b q 0 rfl f
    have l1 := numS_len (n := q.num.natAbs) (k := 60) (by decide) n1
    have l2 := numS_len (n := q.den) (k := 60) (by decide) n2
    have l3 := sgn_len q.num
    have l4 := bel_len n2
    have e1 : (Str.ofString "/").length = 1 := by decide +kernel
    have sl : sizeLine = 16777216 := rfl
    have den := ev_strI (ev_1 F) n2
    have ed : sgnS (q.den : Int) ++ numS (q.den : Int).natAbs = numS q.den := by
      unfold sgnS
      rw [if_neg (by omega), show (q.den : Int).natAbs = q.den from rfl]
      exact TL.ext_tl (by rw [TL.tl_append]; rfl)
    rw [ed] at den
    have cat := ev_catS (ev_c (v := .str "/")) den (by rw [sl, e1]; omega)
    have mul : Ev (tOp rMulS (tOp (fun x y H Q => ∃ i j, x = .str i ∧ y = .str j ∧ i.length + j.length ≤ sizeLine ∧ Q (.str (i ++ j)) H) (tC (.str "/")) (tCB (fun xs H Q => ∃ i : Int, xs = [.int i] ∧ i.natAbs.log2 < 1920 ∧ Q (.str (toString i)) H) (tCons (tOp (rIxT K) (tVar 0) (tC (.int 1))) tNil))) (tCB (fun xs H Q => (∃ i, xs = [.int i] ∧ Q (.int i) H) ∨ ∃ k, xs = [.bl k] ∧ Q (.int (if k then 1 else 0)) H) (tCons (tOp (rI0 fun i j => .bl (decide (j < i))) (tOp (rIxT K) (tVar 0) (tC (.int 1))) (tC (.int 1))) tNil))) (start n__law_number [v]) H (.str (belS q)) := by
      intro H1 e Q k
      refine t_op2 ?_
      refine cat H1 e _ fun H2 e2 => ?_
      refine t_cb1 ?_
      refine (ev_op (ev_1 F) (ev_c (v := .int 1)) (rv_I0 (g := fun i j => .bl (decide (j < i))))) H2 (e.trans e2) _ fun H3 e3 => .inr ⟨_, rfl, ?_⟩
      by_cases c : q.den = 1
      · rw [if_neg (by rw [c]; decide)]
        refine ⟨_, _, rfl, rfl, mulOk0 _, ?_⟩
        rw [mul_none]
        unfold belS at k
        rw [if_pos c] at k
        exact k H3 (e2.trans e3)
      · have dp := q.den_pos
        rw [if_pos (decide_eq_true (by omega))]
        refine ⟨_, _, rfl, rfl, mulOk1 _, ?_⟩
        rw [mul_one]
        unfold belS at k
        rw [if_neg c] at k
        exact k H3 (e2.trans e3)
    exact s_ret (ev_catS (ev_strI (ev_0 F) n1) mul (by rw [Str.length_append, sl]; omega)) fun H3 e3 => kk H3 e3
end
/-! ### the law's own words -/
section
variable {P : Program} {w : World} {K : PySem.W.Frag} {mg : Str → Option Value} {base : Heap}
/-- a list of words stands there -/
def WL (ws : List Str) : V → Hp → Prop := fun v G => ∃ l, v = .ref l ∧ G l = some (.lst (ws.map V.str))
theorem lwd_of (T : Txt K mg) (k : Nat) (ih : FnOk P w K mg base CX0 (4 + k) T.d__law_words.a T.d__law_words.fd ["_law_term"] (spTw K k)) : FnOk P w K mg base CX0 (4 + k + 1) T.d__law_words.a T.d__law_words.fd ["_law_term"] (spTw K (k + 1)) := by
  refine (T.d__law_words.F.ok (k := 4 + k) sc__law_words (fun vs H Q E h => ?_) fun cdv A outer s H vs Q E hr h => ?_)
  · obtain ⟨p, v, d, S, N, n, rfl, _⟩ := h
    rfl
  · obtain ⟨p, v, d, S, N, n, rfl, hd, tm, fd, n96, kk⟩ := h
    refine ⟨_, (pss_cons (ps_if (pt_cmpR op_eq (pe_ix ix_tup (pv 0) pe_int (fun _ _ => rfl)) pe_str (nomark _)) (pss_one (ps_ret (pe_lst (pa_cons pe_str pa_nil)))) pss_nil)
      (pss_cons (ps_set (i := 1) sc__law_words.nd rfl (Or.inl rfl) (pe_ifExp (pt_cmpR op_eq (pe_ix ix_tup (pv 0) pe_int (fun _ _ => rfl)) pe_str (nomark _)) (pe_lst (pa_cons pe_str (pa_cons pe_str pa_nil))) (pe_lst (pa_cons pe_str (pa_cons (pe_call (ok__law_number T) (hr.mono (by omega)) (by rfl) T.d__law_number.g T.d__law_number.F.kp T.d__law_number.b .nil pass0 (pa_cons (pe_ix ix_tup (pv 0) pe_int (fun _ _ => rfl)) pa_nil)) (pa_cons pe_str pa_nil))))))
      (pss_cons (ps_if (pt_cmpR op_eq (pe_ix ix_tup (pv 0) pe_int (fun _ _ => rfl)) pe_str (nomark _)) (pss_cons (ps_for PassesOwn.never rfl (pi_tup (pe_ix ix_tup (pv 0) pe_int (fun _ _ => rfl))) (pg_name (i := 2) sc__law_words.nd rfl (Or.inl rfl)) (pss_one (ps_set (i := 1) sc__law_words.nd rfl (Or.inl rfl) (pe_op op_cat (pv 1) (pe_call ih (hr.mono (by omega)) (by rfl) T.d__law_words.g T.d__law_words.F.kp T.d__law_words.b .nil pass0 (pa_cons (pv 2) pa_nil))))))
      (pss_one (ps_ret (pe_op op_cat (pv 1) (pe_lst (pa_cons pe_str pa_nil)))))) pss_nil)
      (pss_cons (ps_for PassesOwn.never rfl (pi_tup (pe_ix ix_tup (pv 0) pe_int (fun _ _ => rfl))) (pg_tup (by rfl) (pgs_cons (pg_name (i := 3) sc__law_words.nd rfl (Or.inl rfl)) (pgs_cons (pg_name (i := 2) sc__law_words.nd rfl (Or.inl rfl)) pgs_nil))) (pss_one (ps_set (i := 1) sc__law_words.nd rfl (Or.inl rfl) (pe_op op_cat (pe_op op_cat (pv 1) (pe_lst (pa_cons (pe_call (ok__law_number T) (hr.mono (by omega)) (by rfl) T.d__law_number.g T.d__law_number.F.kp T.d__law_number.b .nil pass0 (pa_cons (pv 3) pa_nil)) pa_nil))) (pe_call ih (hr.mono (by omega)) (by rfl) T.d__law_words.g T.d__law_words.F.kp T.d__law_words.b .nil pass0 (pa_cons (pv 2) pa_nil))))))
      (pss_one (ps_ret (pe_op op_cat (pv 1) (pe_lst (pa_cons pe_str pa_nil))))))))), ?_⟩
    have tm0 := tm
    refine n_seq ?_
    cases tm with
    | e =>
      refine s_if (b := true) (et_is (et_test (ev_name (t := "end") rfl hd)) (by decide +kernel)) (fun _ H1 e1 => ?_) fun z => nomatch z
      refine ⟨by show 1 ≤ sizeLine; decide, fun l fl => ?_⟩
      exact kk l _ (e1.trans (Ex.new fl)) (none_ex e1 fl) upd_same
    | @al _ S N ts ns ta l2 l3 =>
      have ft : flatNA 128 ts = true := by
        simp only [flatN, flatNA, Bool.and_true, Bool.true_and] at fd
        exact fd
      refine s_if (b := false) (et_is (et_test (ev_name (t := "end") rfl hd)) (by decide +kernel)) (fun z => nomatch z) fun _ H1 e1 => ?_
      have hd1 := Dq.ex e1 _ _ hd
      refine n_next ?_
      refine n_seq ?_
      refine s_asgP (P := WL [wAll, wO]) (ep_if (c := true) (et_is (et_test (ev_name (t := "all") rfl hd1)) (by decide +kernel)) (fun _ H2 e Q k => ⟨by show 2 ≤ sizeLine; decide, fun l fl => k _ _ (Ex.new fl) ⟨l, rfl, upd_same⟩⟩) fun z => nomatch z) fun z2 H2 e2 hz2 => ?_
      obtain ⟨l0, rfl, hl0⟩ := hz2
      have hd2 := Dq.ex e2 _ _ hd1
      dsimp only
      refine n_seq ?_
      refine s_if (b := true) (et_is (et_test (ev_name (t := "all") rfl hd2)) (by decide +kernel)) (fun _ H3 e3 => ?_) fun z => nomatch z
      have hd3 := Dq.ex e3 _ _ hd2
      refine n_seq ?_
      refine ed_ix (K := K) (p := p) (j := 1) rfl hd3 rfl _ (Ex.refl _) _ fun x1 H5 e5 q5 => ?_
      obtain ⟨b, xs, rfl, hSb, hA⟩ := q5.seq
      have xlen := hA.len
      have E5 := (e1.trans e2).trans (e3.trans e5)
      obtain ⟨Ps, pl, _, pn, hP⟩ := ta.cnts
      have w1 := twA_len (fun h => tw_len h) ta
      refine ⟨b, rfl, ⟨_, hSb⟩, ?_⟩
      refine for_tup (K := K) (a := b) (xs := xs) (fun i σ G => Ex H5 G ∧ ∃ (l : Addr) (y2 : Option V), G l = some (.lst (([wAll, wO] ++ (ts.take i).flatMap (tw k)).map V.str)) ∧ σ = [some v, some (.ref l), y2, none]) ⟨Ex.refl H5, l0, none, (e3.trans e5) _ _ hl0, rfl⟩ (fun i σ G _ h => ex_t h.1 hSb) ?_ ?_
      · rintro i x σ G hx ⟨eb, l, y2, hz, rfl⟩
        have il : i < xs.length := (List.getElem?_eq_some_iff.mp hx).1
        obtain ⟨di, hdi⟩ : ∃ di, ts[i]? = some di := ⟨_, List.getElem?_eq_getElem (by omega)⟩
        obtain ⟨x', hx', qx⟩ := (DqAll.ex eb _ _ hA).get hdi
        rw [hx] at hx'
        cases hx'
        obtain ⟨si, mi, zi, hpi, tmi⟩ := hP i di hdi
        have miN : mi ≤ N := by
          rw [← pn]
          exact mem_le_sum (List.mem_map.mpr ⟨_, List.mem_of_getElem? hpi, rfl⟩)
        have w2 := flat_take_le (tw k) ts i hdi
        refine n_name ?_
        dsimp only
        refine ⟨_, rfl, _, rfl, p, x, di, si, mi, zi, rfl, qx, tmi, flatM_mem ft (List.mem_of_getElem? hdi), by omega, fun l2 G2 e2 nl2 hl2 => ?_⟩
        refine ⟨l, l2, _, _, rfl, rfl, e2 _ _ hz, hl2, Nat.le_of_lt (small1000 (by simp only [List.length_map, List.length_append, List.length_cons, List.length_nil]; omega)), fun l3 fl3 => ?_⟩
        refine ⟨eb.trans (e2.trans (Ex.new fl3)), l3, _, ?_, rfl⟩
        rw [upd_same, List.take_succ, hdi, List.flatMap_append, ← List.map_append]
        congr 3
        simp
      · rintro σ G ⟨eb, l, y2, hz, rfl⟩
        rw [xlen, List.take_length] at hz
        refine ⟨_, rfl, by show 1 ≤ sizeLine; decide, fun l2 fl2 => ?_⟩
        have x2 := Ex.new (o := .lst [V.str ")"]) fl2
        refine ⟨l, l2, _, _, rfl, rfl, x2 _ _ hz, upd_same, Nat.le_of_lt (small1000 (by simp only [List.length_map, List.length_append, List.length_cons, List.length_nil]; omega)), fun l3 fl3 => ?_⟩
        have x3 := Ex.new (o := .lst (([wAll, wO] ++ ts.flatMap (tw k)).map V.str ++ [V.str ")"])) fl3
        have EG := E5.trans (eb.trans x2)
        refine kk l3 _ (EG.trans x3) (none_ex EG fl3) ?_
        rw [upd_same, tw_al]
        unfold lw
        simp
    | @st _ S N w os ns fq ol ob ta =>
      have ft : flatNA 128 os = true := by
        simp only [flatN, flatNA, Bool.and_true, Bool.true_and, Bool.and_eq_true] at fd
        exact fd.2
      have fw : flatN 128 w = true := by
        simp only [flatN, flatNA, Bool.and_true, Bool.true_and, Bool.and_eq_true] at fd
        exact fd.1
      have ew := frB_iff fq
      have bw : Bd 128 (frQ w) := bd39 (by rw [← ew]; exact fw)
      refine s_if (b := false) (et_is (et_test (ev_name (t := "end") rfl hd)) (by decide +kernel)) (fun z => nomatch z) fun _ H1 e1 => ?_
      have hd1 := Dq.ex e1 _ _ hd
      refine n_next ?_
      refine n_seq ?_
      refine s_asgP (P := WL [wStep, fT (frQ w), wO]) (ep_if (c := false) (et_is (et_test (ev_name (t := "all") rfl hd1)) (by decide +kernel)) (fun z => nomatch z) fun _ H2 e Q k => ?_) fun z2 H2 e2 hz2 => ?_
      · refine ed_ix (K := K) (p := p) (j := 1) rfl (Dq.ex e _ _ hd1) rfl _ (Ex.refl _) _ fun x H3 e3 q3 => ?_
        refine ⟨x, 128, frQ w, rfl, q3.fr fq bw, by decide, fun H4 e4 => ?_⟩
        exact ⟨by show 3 ≤ sizeLine; decide, fun l fl => k _ _ ((e3.trans e4).trans (Ex.new fl)) ⟨l, rfl, upd_same⟩⟩
      obtain ⟨l0, rfl, hl0⟩ := hz2
      have hd2 := Dq.ex e2 _ _ hd1
      dsimp only
      refine n_seq ?_
      refine s_if (b := false) (et_is (et_test (ev_name (t := "all") rfl hd2)) (by decide +kernel)) (fun z => nomatch z) fun _ H3 e3 => ?_
      have hd3 := Dq.ex e3 _ _ hd2
      refine n_next ?_
      refine n_seq ?_
      refine ed_ix (K := K) (p := p) (j := 2) rfl hd3 rfl _ (Ex.refl _) _ fun x1 H5 e5 q5 => ?_
      obtain ⟨b, xs, rfl, hSb, hA⟩ := q5.seq
      have xlen := hA.len
      have E5 := (e1.trans e2).trans (e3.trans e5)
      obtain ⟨Ps, pl, _, pn, hP⟩ := ta.cnts
      have w1 := twO_len (fun h => tw_len h) ta
      refine ⟨b, rfl, ⟨_, hSb⟩, ?_⟩
      refine for_tup (K := K) (a := b) (xs := xs) (fun i σ G => Ex H5 G ∧ ∃ (l : Addr) (y2 y3 : Option V), G l = some (.lst (([wStep, fT (frQ w), wO] ++ (os.take i).flatMap (fun o => fT (frQ (fstD o)) :: tw k (sndD o))).map V.str)) ∧ σ = [some v, some (.ref l), y2, y3]) ⟨Ex.refl H5, l0, none, none, (e3.trans e5) _ _ hl0, rfl⟩ (fun i σ G _ h => ex_t h.1 hSb) ?_ ?_
      · rintro i x σ G hx ⟨eb, l, y2, y3, hz, rfl⟩
        have il : i < xs.length := (List.getElem?_eq_some_iff.mp hx).1
        obtain ⟨o, ho⟩ : ∃ o, os[i]? = some o := ⟨_, List.getElem?_eq_getElem (by omega)⟩
        obtain ⟨x', hx', qx⟩ := (DqAll.ex eb _ _ hA).get ho
        rw [hx] at hx'
        cases hx'
        have hom := List.mem_of_getElem? ho
        have obo := ob o hom
        obtain ⟨ow1, ow2, ow3⟩ := out_w obo (flatM_mem ft hom)
        obtain ⟨s', m', n', hpi, tm'⟩ := hP i (sndD o) (by rw [List.getElem?_map, ho]; rfl)
        have mN : m' ≤ N := by
          rw [← pn]
          exact mem_le_sum (List.mem_map.mpr ⟨_, List.mem_of_getElem? hpi, rfl⟩)
        obtain ⟨c, z1, z2, rfl, hSc, qw, qi⟩ := dq_out obo qx
        have w2 := flat_take_le (fun o => fT (frQ (fstD o)) :: tw k (sndD o)) os i ho
        rw [List.length_cons] at w2
        refine ⟨c, _, rfl, hSc, rfl, _, _, rfl, _, _, rfl, rfl, ?_⟩
        dsimp only
        refine ⟨_, rfl, _, rfl, z1, 128, frQ (fstD o), rfl, qw.fr (by rw [ow1]; exact frB_frd _) ow2, by decide, fun G2 e2 => ?_⟩
        refine ⟨by show 1 ≤ sizeLine; decide, fun l1 fl1 => ?_⟩
        have x1 := Ex.new (o := .lst [V.str (fT (frQ (fstD o)))]) fl1
        refine ⟨l, l1, _, _, rfl, rfl, (e2.trans x1) _ _ hz, upd_same, Nat.le_of_lt (small1000 (by simp only [List.length_map, List.length_append, List.length_cons, List.length_nil]; omega)), fun l2 fl2 => ?_⟩
        have x2 := Ex.new (o := .lst ((([wStep, fT (frQ w), wO] ++ (os.take i).flatMap (fun o => fT (frQ (fstD o)) :: tw k (sndD o))).map V.str) ++ [V.str (fT (frQ (fstD o)))])) fl2
        have hz3 := upd_same (H := upd G2 l1 (.lst [V.str (fT (frQ (fstD o)))])) (a := l2) (o := .lst ((([wStep, fT (frQ w), wO] ++ (os.take i).flatMap (fun o => fT (frQ (fstD o)) :: tw k (sndD o))).map V.str) ++ [V.str (fT (frQ (fstD o)))]))
        have E3 := e2.trans (x1.trans x2)
        have qi3 := Dq.ex E3 _ _ qi
        generalize upd (upd G2 l1 (.lst [V.str (fT (frQ (fstD o)))])) l2 _ = G3 at x2 hz3 E3 qi3
        refine ⟨_, rfl, p, z2, sndD o, s', m', n', rfl, qi3, tm', ow3, by omega, fun l3 G4 e4 nl3 hl3 => ?_⟩
        refine ⟨l2, l3, _, _, rfl, rfl, e4 _ _ hz3, hl3, Nat.le_of_lt (small1000 (by simp only [List.length_map, List.length_append, List.length_cons, List.length_nil]; omega)), fun l4 fl4 => ?_⟩
        refine ⟨eb.trans (E3.trans (e4.trans (Ex.new fl4))), l4, _, _, ?_, rfl⟩
        rw [upd_same, List.take_succ, ho, List.flatMap_append]
        simp
      · rintro σ G ⟨eb, l, y2, y3, hz, rfl⟩
        rw [xlen, List.take_length] at hz
        refine ⟨_, rfl, by show 1 ≤ sizeLine; decide, fun l2 fl2 => ?_⟩
        have x2 := Ex.new (o := .lst [V.str ")"]) fl2
        refine ⟨l, l2, _, _, rfl, rfl, x2 _ _ hz, upd_same, Nat.le_of_lt (small1000 (by simp only [List.length_map, List.length_append, List.length_cons, List.length_nil]; omega)), fun l3 fl3 => ?_⟩
        have EG := E5.trans (eb.trans x2)
        refine kk l3 _ (EG.trans (Ex.new fl3)) (none_ex EG fl3) ?_
        rw [upd_same, tw_st, List.map_append (l₂ := [wC])]
        rfl
theorem ok__law_words (T : Txt K mg) : ∀ k, FnOk P w K mg base CX0 (4 + k) T.d__law_words.a T.d__law_words.fd ["_law_term"] (spTw K k)
  | 0 => by
    refine (T.d__law_words.F.ok (k := 3) sc__law_words (fun vs H Q E h => ?_) fun cdv A outer s H vs Q E hr h => ?_)
    · obtain ⟨p, v, d, S, N, n, rfl, _⟩ := h
      rfl
    · obtain ⟨p, v, d, S, N, n, rfl, _, tm, _⟩ := h
      cases tm
  | k + 1 => lwd_of T k (ok__law_words T k)
end
/-! ### data kept where a dict changes, or a list that it doesn't hold -/
section
variable {K : PySem.W.Frag} {p q : Addr} {H H' : Hp}
mutual
theorem Dq.tk (hp : tupd H p) (hk : H p ≠ some (.dK [])) (e : ExB p H H') : ∀ (d : PyData) (v : V), Dq K p H v d → Dq K p H' v d
  | _, _, .non => .non
  | _, _, .bl b => .bl b
  | _, _, .int i => .int i
  | _, _, .str x => .str x
  | _, _, .lst n m h hs => .lst n m (e _ _ n h) (DqAll.tk hp hk e _ _ hs)
  | _, _, .tup h hs => .tup (sqt_tb hp e h) (DqAll.tk hp hk e _ _ hs)
  | _, _, .emp h => .emp (e _ _ (by rintro rfl; exact hk h) h)
theorem DqAll.tk (hp : tupd H p) (hk : H p ≠ some (.dK [])) (e : ExB p H H') : ∀ (ds : List PyData) (vs : List V), DqAll K p H vs ds → DqAll K p H' vs ds
  | _, _, .nil => .nil
  | _, _, .cons h hs => .cons (Dq.tk hp hk e _ _ h) (DqAll.tk hp hk e _ _ hs)
end
mutual
/-- data is not at what is no list -/
theorem Dq.to (hp : ∀ xs, H p ≠ some (.lst xs)) : ∀ (d : PyData) (v : V), Dq K q H v d → Dq K p H v d
  | _, _, .non => .non
  | _, _, .bl b => .bl b
  | _, _, .int i => .int i
  | _, _, .str x => .str x
  | _, _, .lst n m h hs => .lst (by rintro rfl; exact hp _ h) m h (DqAll.to hp _ _ hs)
  | _, _, .tup h hs => .tup h (DqAll.to hp _ _ hs)
  | _, _, .emp h => .emp h
theorem DqAll.to (hp : ∀ xs, H p ≠ some (.lst xs)) : ∀ (ds : List PyData) (vs : List V), DqAll K q H vs ds → DqAll K p H vs ds
  | _, _, .nil => .nil
  | _, _, .cons h hs => .cons (Dq.to hp _ _ h) (DqAll.to hp _ _ hs)
end
theorem Tape.nl (h : Tape H p) : (∀ xs, H p ≠ some (.lst xs)) ∧ H p ≠ some (.dK []) := by
  obtain ⟨d, m, h, _⟩ := h
  exact ⟨fun xs => by rw [h]; exact (nofun), by rw [h]; exact (nofun)⟩
theorem Tape.dq {v : V} {d : PyData} (h : Tape H p) (e : ExB p H H') (q : Dq K p H v d) : Dq K p H' v d := Dq.tk h.tupd h.nl.2 e _ _ q
theorem Tape.dqs {vs : List V} {ds : List PyData} (h : Tape H p) (e : ExB p H H') (q : DqAll K p H vs ds) : DqAll K p H' vs ds := DqAll.tk h.tupd h.nl.2 e _ _ q
end
section
variable {K : PySem.W.Frag} {p : Addr}
theorem lc_mapX {J : It} {ys : List V} {sq : Hp → Prop} {j : Nat} {te : TE} {vs : List Nat} {σ : L2.St} {H1 : Hp} {D : Addr} {Qd : Hp → Prop} {ds es : List PyData} (w : Walk J ys.length sq (YAt ys)) (hsq : ∀ G, Ex H1 G → sq G) (nD : H1 D = none) (hq : DqAll K D H1 ys ds) (le : es.length = ds.length) (l9 : ds.length ≤ 900)
    (hw : ∀ x, wipe ((wipe σ vs).set j (some x)) vs = wipe σ vs)
    (he : ∀ (i : Nat) (x : V) (d e : PyData) (G : Hp) (zs : List V), ds[i]? = some d → es[i]? = some e → Ex H1 G → G D = some (.lst zs) → Dq K D G x d → EvP te ((wipe σ vs).set j (some x)) G fun v G' => Dq K D G' v e)
    (hd : ∀ zs G, Ex H1 G → G D = some (.lst zs) → DqAll K D G zs es → Qd G) :
    ∃ W : Nat → Nat → Hp → Prop, (∃ m, W 0 m (upd H1 D (.lst []))) ∧ ∀ i m H, W i m H →
      (J.stop i H ∧ Qd H) ∨ (J.go i H ∧ ∃ Nx : Hp → Prop, (∀ H', Nx H' → ∃ m', m' < m ∧ W (i + 1) m' H') ∧ ∀ x H', J.yld i H x H' → gName j x (wipe σ vs) H' fun σ2 H2 => wipe σ2 vs = wipe σ vs ∧ tYes σ2 H2 fun b H3 =>
        if b = true then te σ2 H3 fun y H4 => ∃ acc, H4 D = some (.lst acc) ∧ acc.length < sizeLine ∧ Nx (upd H4 D (.lst (acc ++ [y]))) else Nx H3) := by
  refine lc_it w (fun i G => Ex H1 G ∧ ∃ zs, G D = some (.lst zs) ∧ zs.length = i ∧ DqAll K D G zs (es.take i)) ⟨Ex.new nD, [], upd_same, rfl, .nil⟩ (fun i G _ h => hsq G h.1) ?_ ?_
  · rintro i x G G' hi ⟨ex, zs, hz, zl, qs⟩ ⟨rfl, hx⟩
    have dl := hq.len
    obtain ⟨d, hdi⟩ : ∃ d, ds[i]? = some d := ⟨_, List.getElem?_eq_getElem (by omega)⟩
    obtain ⟨e, hei⟩ : ∃ e, es[i]? = some e := ⟨_, List.getElem?_eq_getElem (by omega)⟩
    obtain ⟨x', hx', qx⟩ := hq.get hdi
    rw [hx] at hx'
    cases hx'
    refine n_name ⟨hw x, ?_⟩
    refine yes_of ?_
    rw [if_pos rfl]
    refine he i x d e _ zs hdi hei ex hz (Dq.ex ex _ _ qx) _ (Ex.refl _) _ fun y H4 e4 q4 => ?_
    have hz4 := e4 _ _ hz
    have up : ExB D H4 (upd H4 D (.lst (zs ++ [y]))) := ExB.upd (ExB.refl D H4)
    refine ⟨zs, hz4, small1000 (by omega), Ex.mut (ex.trans e4) nD, zs ++ [y], upd_same, by simp [zl], ?_⟩
    rw [List.take_succ, hei]
    exact (DqAll.exb hz4 up _ _ (DqAll.ex e4 _ _ qs)).append (.cons (Dq.exb hz4 up _ _ q4) .nil)
  · rintro G ⟨ex, zs, hz, zl, qs⟩
    have dl := hq.len
    rw [List.take_of_length_le (by omega)] at qs
    exact hd zs G ex hz qs
end
section
variable {K : PySem.W.Frag} {p : Addr} {σ : L2.St} {H : Hp} {ta tb te : TE} {ds es : List PyData}
theorem dqs_rep {xs : List V} (h : DqAll K p H xs ds) : ∀ m : Nat, DqAll K p H (List.replicate m xs).flatten (List.replicate m ds).flatten
  | 0 => .nil
  | m + 1 => by
    rw [List.replicate_succ, List.replicate_succ, List.flatten_cons, List.flatten_cons]
    exact h.append (dqs_rep h m)
theorem ed_rep {m : Nat} (h : EvD K p te σ H (.tuple ds)) (ne : ds ≠ []) (h2 : 2 ≤ m) (hm : m ≤ 1000) (hl : ds.length ≤ 1000) : EvD K p (tOp (rRepT K) te (tC (.int (m : Int)))) σ H (.tuple (List.replicate m ds).flatten) := fun H1 e1 Q k => h H1 e1 _ fun x H2 e2 q => by
  obtain ⟨a, xs, rfl, hS, hA⟩ := q.seq
  have xl := hA.len
  refine ⟨a, (m : Int), xs, rfl, rfl, hS, fun z => ne (List.eq_nil_of_length_eq_zero (by rw [← xl, z]; rfl)), by omega, by omega, by omega, fun t ft => ?_⟩
  rw [Int.toNat_natCast]
  have x2 := Ex.new (o := .tup (List.replicate m xs).flatten) ft
  exact k (.ref t) _ (e2.trans x2) (.tup (SqT.of upd_same) (dqs_rep (DqAll.ex x2 _ _ hA) m))
theorem LstD0.ex {H' : Hp} {v : V} (e : Ex H H') (h : LstD0 K p ds v H) : LstD0 K p ds v H' := by
  obtain ⟨l, vs, rfl, n, h, q⟩ := h
  exact ⟨l, vs, rfl, n, e _ _ h, DqAll.ex e _ _ q⟩
theorem ep_lvar {i : Nat} {v : V} (hv : σ[i]? = some (some v)) (h : LstD0 K p ds v H) : EvP (tVar i) σ H (LstD0 K p ds) := fun H1 e1 Q k => ⟨v, hv, k v H1 (Ex.refl _) (h.ex e1)⟩
theorem ep_l0 (h : EvP te σ H (LstD K p ds)) : EvP te σ H (LstD0 K p ds) := fun H1 e1 Q k => h H1 e1 _ fun v H2 e2 q => k v H2 e2 q.to0
theorem el_cat {o : HO} (hp : H p = some o) (ha : EvP ta σ H (LstD0 K p ds)) (hb : EvP tb σ H (LstD0 K p es)) (hl : ds.length + es.length ≤ 900) : EvP (tOp rCat ta tb) σ H (LstD0 K p (ds ++ es)) := fun H1 e1 Q k =>
  ha H1 e1 _ fun x H2 e2 q => hb H2 (e1.trans e2) _ fun y H3 e3 r => by
    obtain ⟨l, vs, rfl, n, h, q⟩ := LstD0.ex e3 q
    obtain ⟨b, ws, rfl, n2, h2, r⟩ := r
    have l1 := q.len
    have l2 := r.len
    refine ⟨l, b, vs, ws, rfl, rfl, h, h2, Nat.le_of_lt (small1000 (by omega)), fun t ft => ?_⟩
    have x3 := Ex.new (o := .lst (vs ++ ws)) ft
    exact k (.ref t) _ ((e2.trans e3).trans x3) ⟨t, _, rfl, (ne_of_none ((e2.trans e3) _ _ (e1 _ _ hp)) ft).symm, upd_same, (DqAll.ex x3 _ _ q).append (DqAll.ex x3 _ _ r)⟩
end
/-! ### a mix's words; drawn mixes -/
/-- terms that are small enough to be written as a mix -/
def MxW (ds : List PyData) : Prop := flatNA 128 ds = true ∧ (∀ d ∈ ds, ∃ S N n, Tm 30 d S N n ∧ N ≤ 96) ∧ (ds.flatMap (tw 30)).length ≤ 800
section
variable {P : Program} {w : World} {K : PySem.W.Frag} {mg : Str → Option Value} {base : Heap}
def spLmw (K : PySem.W.Frag) : Sp := fun vs H Q _ => ∃ (p : Addr) (v : V) (ds : List PyData), vs = [v] ∧ Dq K p H v (.tuple ds) ∧ MxW ds ∧
  ∀ l H', Ex H H' → H' l = some (.lst ((wMix :: lw 30 ds).map V.str)) → Q (.ref l) H'
theorem ok__law_mix_words (T : Txt K mg) : FnOk P w K mg base CX0 35 T.d__law_mix_words.a T.d__law_mix_words.fd ["_law_mix"] (spLmw K) := by
  refine T.d__law_mix_words.F.ok sc__law_mix_words (fun vs H Q E h => ?_) (fun cdv A outer s H vs Q E hr h => ?_)
  · obtain ⟨p, v, ds, rfl, _⟩ := h
    rfl
  · obtain ⟨p, v, ds, rfl, hd, g, kk⟩ := h
    refine ⟨_, (pss_cons (ps_set (i := 1) sc__law_mix_words.nd rfl (Or.inl rfl) (pe_lst (pa_cons pe_str (pa_cons pe_str pa_nil))))
      (pss_cons (ps_for PassesOwn.never rfl (pi_tup (pv 0)) (pg_name (i := 2) sc__law_mix_words.nd rfl (Or.inl rfl)) (pss_one (ps_set (i := 1) sc__law_mix_words.nd rfl (Or.inl rfl) (pe_op op_cat (pv 1) (pe_call (ok__law_words T 30) (hr.mono (by first | decide | omega)) (by rfl) T.d__law_words.g T.d__law_words.F.kp T.d__law_words.b .nil pass0 (pa_cons (pv 2) pa_nil))))))
      (pss_one (ps_ret (pe_op op_cat (pv 1) (pe_lst (pa_cons pe_str pa_nil))))))), ?_⟩
    obtain ⟨ft, hP, w1⟩ := g
    refine n_seq ?_
    refine ⟨by show 2 ≤ sizeLine; decide, fun l0 fl0 => ?_⟩
    have x0 := Ex.new (o := .lst [V.str "mix", V.str "("]) fl0
    have hl0 : (upd H l0 (.lst [V.str "mix", V.str "("])) l0 = some (.lst (([wMix, wO] : List Str).map V.str)) := upd_same
    generalize upd H l0 (.lst [V.str "mix", V.str "("]) = H1 at x0 hl0
    dsimp only
    refine n_seq ?_
    obtain ⟨b, xs, rfl, hSb, hA⟩ := (Dq.ex x0 _ _ hd).seq
    have xlen := hA.len
    refine ⟨_, rfl, b, rfl, ⟨_, hSb⟩, ?_⟩
    refine for_tup (K := K) (a := b) (xs := xs) (fun i σ G => Ex H1 G ∧ ∃ (l : Addr) (y2 : Option V), G l = some (.lst (([wMix, wO] ++ (ds.take i).flatMap (tw 30)).map V.str)) ∧ σ = [some (.ref b), some (.ref l), y2]) ⟨Ex.refl H1, l0, none, hl0, rfl⟩ (fun i σ G _ h => ex_t h.1 hSb) ?_ ?_
    · rintro i x σ G hx ⟨eb, l, y2, hz, rfl⟩
      have il : i < xs.length := (List.getElem?_eq_some_iff.mp hx).1
      obtain ⟨di, hdi⟩ : ∃ di, ds[i]? = some di := ⟨_, List.getElem?_eq_getElem (by omega)⟩
      obtain ⟨x', hx', qx⟩ := (DqAll.ex eb _ _ hA).get hdi
      rw [hx] at hx'
      cases hx'
      obtain ⟨si, mi, zi, tmi, m96⟩ := hP di (List.mem_of_getElem? hdi)
      have w2 := flat_take_le (tw 30) ds i hdi
      refine n_name ?_
      dsimp only
      refine ⟨_, rfl, _, rfl, p, x, di, si, mi, zi, rfl, qx, tmi, flatM_mem ft (List.mem_of_getElem? hdi), by omega, fun l2 G2 e2 nl2 hl2 => ?_⟩
      refine ⟨l, l2, _, _, rfl, rfl, e2 _ _ hz, hl2, Nat.le_of_lt (small1000 (by simp only [List.length_map, List.length_append, List.length_cons, List.length_nil]; omega)), fun l3 fl3 => ?_⟩
      refine ⟨eb.trans (e2.trans (Ex.new fl3)), l3, _, ?_, rfl⟩
      rw [upd_same, List.take_succ, hdi, List.flatMap_append, ← List.map_append]
      congr 3
      simp
    · rintro σ G ⟨eb, l, y2, hz, rfl⟩
      rw [xlen, List.take_length] at hz
      refine ⟨_, rfl, by show 1 ≤ sizeLine; decide, fun l2 fl2 => ?_⟩
      have x2 := Ex.new (o := .lst [V.str ")"]) fl2
      refine ⟨l, l2, _, _, rfl, rfl, x2 _ _ hz, upd_same, Nat.le_of_lt (small1000 (by simp only [List.length_map, List.length_append, List.length_cons, List.length_nil]; omega)), fun l3 fl3 => ?_⟩
      refine kk l3 _ (x0.trans (eb.trans (x2.trans (Ex.new fl3)))) ?_
      rw [upd_same]
      unfold lw
      simp
def spDMx (K : PySem.W.Frag) : Sp := fun vs H Q _ => ∃ (p : Addr) (m r : Nat), vs = [.ref p, .int (m : Nat), .int (r : Nat)] ∧ (m = 4 ∧ r = 3) ∧ Tape H p ∧ ∀ v ds H', ExB p H H' → Tape H' p → Dq K p H' v (.tuple ds) → Gm ds → Q v H'
theorem ok__law_drawn_mix (T : Txt K mg) : FnOk P w K mg base CX0 49 T.d__law_drawn_mix.a T.d__law_drawn_mix.fd ["_law_tape_here", "_law_most", "_law_room"] (spDMx K) := by
  refine T.d__law_drawn_mix.F.ok sc__law_drawn_mix (fun vs H Q E h => ?_) (fun cdv A outer s H vs Q E hr h => ?_)
  · obtain ⟨p, m, r, rfl, _⟩ := h
    rfl
  · obtain ⟨p, m, r, rfl, hmr, ht, kk⟩ := h
    refine ⟨_, (pss_one (ps_ret (pe_callTy call_tuple_of (by rfl) T.n_tuple (by decide +kernel) (pa_cons (pe_lc (own := [("_law_look", 3)]) (g := gName 3) (tt := tYes) rfl sc__law_drawn_mix.nd (pi_range1 (by rfl) T.n_range (pa_cons (pe_op op_add pe_int (pe_call (ok__law_pick T) (hr.mono (by decide)) (by rfl) T.d__law_pick.g T.d__law_pick.F.kp T.d__law_pick.b .nil pass0 (pa_cons (pv 0) (pa_cons (pv 1) pa_nil)))) pa_nil)) (blkOk_by (own := [("_law_look", 3)]) (N := n__law_drawn_mix) (sc := defScope s__law_drawn_mix) (by decide +kernel)) (fun _ _ _ _ _ => pg_name (i := 3) sc__law_drawn_mix.nd rfl (Or.inl rfl)) (fun _ _ _ _ _ => pts_nil) (fun _ _ _ _ _ => (pe_call (ok__law_drawn_term T) (hr.mono (by decide)) (by rfl) T.d__law_drawn_term.g T.d__law_drawn_term.F.kp T.d__law_drawn_term.b .nil pass0 (pa_cons (pv 0) (pa_cons pe_int (pa_cons (pv 2) pa_nil)))))) pa_nil)))), ?_⟩
    obtain ⟨c, hc, mc, mr, m1, m4, r1⟩ : ∃ c : Nat, (∀ N : Nat, N ≤ 48 → (r ≤ 4 → N ≤ 24) → N ≤ c) ∧ c * m ≤ 96 ∧ r * m ≤ 16 ∧ 1 ≤ m ∧ m ≤ 4 ∧ r ≤ 8 := by
      obtain ⟨rfl, rfl⟩ := hmr
      exact ⟨24, fun N _ h => h (by decide), by decide, by decide, by decide, by decide, by decide⟩
    refine ⟨_, rfl, _, rfl, p, m, rfl, ht, by omega, by omega, fun x H1 x0 x4 eb1 ht1 => ?_⟩
    obtain ⟨n, rfl⟩ : ∃ n : Nat, x = n := ⟨x.toNat, by omega⟩
    refine ⟨1, (n : Nat), rfl, rfl, _, rfl, by omega, by omega, fun D nD => ?_⟩
    have em : ((1 : Int) + (n : Nat)).toNat = n + 1 := by omega
    rw [em]
    have Dp : D ≠ p := by
      rintro rfl
      obtain ⟨_, _, h, _⟩ := ht1
      rw [nD] at h
      cases h
    refine lc_it (walk_range (lo := 0) (n := n + 1)) (fun i G => ExB p H1 G ∧ Tape G p ∧ ∃ zs ds S N ns, G D = some (.lst zs) ∧ DqAll K p G zs ds ∧ TmA 30 ds S N ns ∧ flatDA ds = true ∧ ds.length = i ∧ S ≤ r * i ∧ N ≤ c * i ∧ ∀ d ∈ ds, Gt d) ⟨Ex.b (Ex.new nD), ht1.ex (Ex.new nD), [], [], 0, 0, [], upd_same, .nil, .nil, rfl, rfl, Nat.zero_le _, Nat.zero_le _, fun d hd => by cases hd⟩ (fun _ _ _ _ => trivial) ?_ ?_
    · rintro i x G G' hi ⟨eb, htG, zs, ds, S, N, ns, hz, qz, ta, fd, dl, sl, nl, gg⟩ ⟨rfl, rfl⟩
      refine n_name ⟨rfl, ?_⟩
      refine yes_of ?_
      rw [if_pos rfl]
      refine ⟨_, rfl, _, rfl, p, 3, r, rfl, htG, by omega, by decide, fun v d S1 N1 n1 G1 eb1 ht1 qd fd1 tm s1 n48 n24 => ?_⟩
      have hz1 := eb1 _ _ Dp hz
      have zl := qz.len
      have up : ExB D G1 (upd G1 D (.lst (zs ++ [v]))) := ExB.upd (ExB.refl D G1)
      have n24' := hc N1 n48 n24
      have tm30 : Tm 30 d S1 N1 n1 := tm.le (by decide)
      refine ⟨zs, hz1, small1000 (by omega), fun b o nb h => ?_, ?_, zs ++ [v], ds ++ [d], _, _, _, upd_same, ?_, ta.snoc tm30, ?_, by rw [List.length_append, List.length_singleton, dl], by rw [Nat.mul_succ]; omega, by rw [Nat.mul_succ]; omega, fun y hy => ?_⟩
      · rw [upd_ne (ne_of_none h nD)]
        exact eb1 b o nb (eb b o nb h)
      · obtain ⟨c1, c2, hp, r⟩ := ht1
        exact ⟨c1, c2, by rw [upd_ne Dp.symm]; exact hp, r⟩
      · exact (DqAll.fl (tupd_l hz1) up _ _ fd (htG.dqs eb1 qz)).append (.cons (Dq.fl (tupd_l hz1) up _ _ fd1 qd) .nil)
      · exact flatDA_of fun y hy => by
          rcases List.mem_append.mp hy with hy | hy
          · exact flatM_mem fd hy
          · rw [List.mem_singleton.mp hy]
            exact fd1
      · rcases List.mem_append.mp hy with hy | hy
        · exact gg y hy
        · rw [List.mem_singleton.mp hy]
          exact ⟨fd1, S1, N1, n1, tm30, by omega, n48⟩
    · rintro G ⟨eb, htG, zs, ds, S, N, ns, hz, qz, ta, fd, dl, sl, nl, gg⟩
      refine ⟨D, zs, rfl, .inl ⟨SqL.of hz, fun t ft => ?_⟩⟩
      have xt := Ex.new (o := .tup zs) ft
      have h1 : r * (n + 1) ≤ r * m := Nat.mul_le_mul_left _ (by omega)
      have h2 : c * (n + 1) ≤ c * m := Nat.mul_le_mul_left _ (by omega)
      exact kk (.ref t) ds _ ((eb1.trans eb).trans (Ex.b xt)) (htG.ex xt) (.tup (SqT.of upd_same) (DqAll.ex xt _ _ qz)) ⟨fd, by omega, by omega, gg, S, N, ns, ta, by omega, by omega⟩
end
/-! ### words that are numbers: the model -/
theorem dig_c {c : Nat} (h : digB c = true) : 48 ≤ c ∧ c ≤ 57 := by
  unfold digB at h
  rw [show ("0123456789" : Str).cps.toList = [48, 49, 50, 51, 52, 53, 54, 55, 56, 57] by decide +kernel] at h
  simp only [decide_eq_true_eq, List.mem_cons, List.not_mem_nil, or_false] at h
  omega
theorem num_of : ∀ (m : Nat) (l : List Nat), l.length = m → l ≠ [] → (∀ c ∈ l, 48 ≤ c ∧ c ≤ 57) → (l.head? = some 48 → l = [48]) → ∃ n, TL.numL n = l ∧ n < 10 ^ l.length
  | 0, l, hl, ne, _, _ => absurd (List.eq_nil_of_length_eq_zero hl) ne
  | m + 1, l, hl, ne, hd, h0 => by
    obtain ⟨l', c, rfl⟩ : ∃ l' c, l = l' ++ [c] := ⟨l.dropLast, l.getLast ne, (List.dropLast_concat_getLast ne).symm⟩
    have hc := hd c (by simp)
    by_cases e : l' = []
    · subst e
      refine ⟨c - 48, ?_, ?_⟩
      · rw [TL.numL_lt (by omega), show 48 + (c - 48) = c by omega]
        rfl
      · show c - 48 < 10 ^ 1
        omega
    · have hh : l'.head? ≠ some 48 := fun z => by
        have := h0 (by rw [List.head?_append, z]; rfl)
        have l2 := congrArg List.length this
        rw [List.length_append, List.length_singleton, List.length_singleton] at l2
        exact e (List.eq_nil_of_length_eq_zero (by omega))
      obtain ⟨n, hn, nl⟩ := num_of m l' (by rw [List.length_append] at hl; simpa using hl) e (fun c hc => hd c (by simp [hc])) fun z => absurd z hh
      have n1 : 1 ≤ n := by
        rcases Nat.eq_zero_or_pos n with rfl | h
        · rw [TL.numL_lt (by decide)] at hn
          rw [← hn] at hh
          exact absurd rfl hh
        · exact h
      refine ⟨10 * n + (c - 48), ?_, ?_⟩
      · rw [TL.numL_step (by omega), show (10 * n + (c - 48)) / 10 = n by omega, show (10 * n + (c - 48)) % 10 = c - 48 by omega, hn, show 48 + (c - 48) = c by omega]
      · rw [List.length_append, List.length_singleton, Nat.pow_succ]
        omega
/-- figures are a number's text -/
theorem fig_num' {x : Str} (h : figB x = true) : ∃ n, n < 10 ^ 12 ∧ x = numS n := by
  unfold figB at h
  simp only [Bool.and_eq_true, decide_eq_true_eq, Bool.not_eq_true', Bool.and_eq_false_iff, decide_eq_false_iff_not, Bool.not_eq_false', List.all_eq_true] at h
  obtain ⟨⟨l1, l12⟩, h0, hd⟩ := h
  have lx : (TL.tl x).length = x.length := by rw [TL.len_tl]
  obtain ⟨n, hn, nl⟩ := num_of _ (TL.tl x) rfl (fun z => by rw [z] at lx; simp at lx; omega) (fun c hc => dig_c (hd c hc)) fun z => by
    have e0 : x.cps[0]? = some 48 := by
      rw [← Array.getElem?_toList, ← List.head?_eq_getElem?]
      exact z
    rcases h0 with h0 | h0
    · exact absurd e0 h0
    · have e : x = "0" := by simpa using h0
      rw [e]
      decide +kernel
  refine ⟨n, Nat.lt_of_lt_of_le nl (Nat.pow_le_pow_right (by decide) (by omega)), TL.ext_tl ?_⟩
  rw [tl_numS, hn]
/-! ### a word cut at its slashes -/
def cut47 : List Nat → List Nat × List (List Nat)
  | [] => ([], [])
  | c :: r => if c = 47 then ([], (cut47 r).1 :: (cut47 r).2) else (c :: (cut47 r).1, (cut47 r).2)
def mkS (l : List Nat) : Str := ⟨l.toArray⟩
theorem tl_mk (l : List Nat) : TL.tl (mkS l) = l := by
  show l.toArray.toList = l
  simp
theorem mk_tl (x : Str) : mkS (TL.tl x) = x := TL.ext_tl (tl_mk _)
theorem mk_len (l : List Nat) : (mkS l).length = l.length := by rw [TL.len_tl, tl_mk]
def joinL (ps : List (List Nat)) : List Nat := ps.flatMap fun p => 47 :: p
theorem cutL_eq : ∀ l, l = (cut47 l).1 ++ joinL (cut47 l).2
  | [] => rfl
  | c :: r => by
    have ih := cutL_eq r
    unfold cut47
    by_cases h : c = 47
    · rw [if_pos h, h]
      show _ = [] ++ ((47 :: (cut47 r).1) ++ joinL (cut47 r).2)
      rw [List.nil_append, List.cons_append, ← ih]
    · rw [if_neg h]
      show _ = c :: ((cut47 r).1 ++ joinL (cut47 r).2)
      rw [← ih]
theorem cutL_free : ∀ l, 47 ∉ (cut47 l).1 ∧ ∀ p ∈ (cut47 l).2, 47 ∉ p
  | [] => ⟨by simp [cut47], by simp [cut47]⟩
  | c :: r => by
    have ih := cutL_free r
    unfold cut47
    by_cases h : c = 47
    · rw [if_pos h]
      refine ⟨by simp, fun p hp => ?_⟩
      rcases List.mem_cons.mp hp with rfl | hp
      · exact ih.1
      · exact ih.2 p hp
    · rw [if_neg h]
      refine ⟨fun z => ?_, ih.2⟩
      rcases List.mem_cons.mp z with rfl | z
      · exact h rfl
      · exact ih.1 z
theorem part_mk (w : Str) : Txt.partition w "/" = (match (cut47 (TL.tl w)).2 with
    | [] => (mkS (cut47 (TL.tl w)).1, Str.empty, Str.empty)
    | p :: ps => (mkS (cut47 (TL.tl w)).1, Str.ofString "/", mkS (p ++ joinL ps))) := by
  have e := cutL_eq (TL.tl w)
  have f := cutL_free (TL.tl w)
  cases hc : (cut47 (TL.tl w)).2 with
  | nil =>
    rw [hc] at e
    have e' : w = mkS (cut47 (TL.tl w)).1 := TL.ext_tl (by rw [tl_mk]; simpa [joinL] using e)
    show Txt.partition w "/" = _
    conv => lhs; rw [e']
    exact slash_none (by rw [tl_mk]; exact f.1)
  | cons p ps =>
    rw [hc] at e
    have e' : w = mkS (cut47 (TL.tl w)).1 ++ "/" ++ mkS (p ++ joinL ps) := TL.ext_tl (by
      rw [TL.tl_append, TL.tl_append, tl_mk, tl_mk, show TL.tl (Str.ofString "/") = [47] by decide +kernel]
      refine e.trans ?_
      show _ ++ ((47 :: p) ++ joinL ps) = _
      simp)
    show Txt.partition w "/" = _
    conv => lhs; rw [e']
    exact slash_app (by rw [tl_mk]; exact f.1)
theorem rp_yes (a : List Nat) : Txt.removeprefix (mkS (45 :: a)) "-" = mkS a := by
  have e1 : (Str.ofString "-").cps.toList = [45] := by decide +kernel
  have e2 : (Str.ofString "-").length = 1 := by decide +kernel
  have et : (mkS (45 :: a)).cps.toList = 45 :: a := tl_mk _
  rw [StrLaws.removeprefix_eq, StrLaws.subAt_eq, e1, e2, et, mk_len]
  have c : (decide (0 + 1 ≤ (45 :: a).length) && (List.take 1 (List.drop 0 (45 :: a)) == [45])) = true := by simp
  rw [if_pos c]
  refine TL.ext_tl ?_
  rw [tl_mk]
  show List.take _ a = _
  simp
theorem rp_no {a : List Nat} (h : a.head? ≠ some 45) : Txt.removeprefix (mkS a) "-" = mkS a := by
  have e1 : (Str.ofString "-").cps.toList = [45] := by decide +kernel
  have e2 : (Str.ofString "-").length = 1 := by decide +kernel
  have et : (mkS a).cps.toList = a := tl_mk _
  rw [StrLaws.removeprefix_eq, StrLaws.subAt_eq, e1, e2, et, mk_len]
  have c : ¬ (decide (0 + 1 ≤ a.length) && (List.take 1 (List.drop 0 a) == [45])) = true := by
    cases a with
    | nil => simp
    | cons d r =>
      simp at h
      simp [h]
  rw [if_neg c]
/-- whether a minus stands ahead -/
def negW (w : Str) : Bool := decide ((TL.tl w).head? = some 45)
def bodyW (w : Str) : List Nat := if negW w = true then (TL.tl w).tail else TL.tl w
def fstW (w : Str) : Str := mkS (cut47 (bodyW w)).1
def restW (w : Str) : List (List Nat) := (cut47 (bodyW w)).2
def valS (x : Str) : Int := (intText? x).getD 0
def topW (w : Str) : Int := if negW w = true then -valS (fstW w) else valS (fstW w)
/-- whether a word is a number -/
def numB (w : Str) : Bool := (figB (fstW w) && !(negW w && decide (fstW w = "0"))) && match restW w with
  | [] => true
  | [b] => (figB (mkS b) && !decide (mkS b = "1")) && frB (.tuple [.int (topW w), .int (valS (mkS b))])
  | _ => false
/-- whether it is a weight -/
def posW (w : Str) : Bool := numB w && (!negW w && !decide (fstW w = "0"))
theorem val_num {n : Nat} (h : n < 10 ^ 12) : intText? (numS n) = some (n : Int) := TL.int_num (by have := TL.numL_len (n := n) (k := 12) (by decide) h; omega)
theorem cut_w (w : Str) : cut47 (TL.tl w) = (if negW w = true then 45 :: (cut47 (bodyW w)).1 else (cut47 (bodyW w)).1, (cut47 (bodyW w)).2) := by
  unfold bodyW
  by_cases h : negW w = true
  · rw [if_pos h, if_pos h]
    have h' : (TL.tl w).head? = some 45 := of_decide_eq_true h
    cases hl : TL.tl w with
    | nil => rw [hl] at h'; cases h'
    | cons c r =>
      rw [hl] at h'
      obtain rfl : c = 45 := by simpa using h'
      conv => lhs; unfold cut47
      rw [if_neg (by decide)]
      rfl
  · rw [if_neg h, if_neg h]
theorem fst_head {w : Str} (h : ¬ negW w = true) : (cut47 (bodyW w)).1.head? ≠ some 45 := fun z => by
  have h' : (TL.tl w).head? ≠ some 45 := fun y => h (decide_eq_true y)
  unfold bodyW at z
  rw [if_neg h] at z
  have e := cutL_eq (TL.tl w)
  rw [e, List.head?_append, z] at h'
  exact h' rfl
/-! ### parse_fraction, any word -/
theorem neg0 {n : Nat} (h : n < 10 ^ 12) : (mkS (45 :: TL.numL n) = "-0") = (n = 0) := by
  apply propext
  have e0 : TL.tl (Str.ofString "-0") = [45, 48] := by decide +kernel
  constructor
  · intro e
    have := congrArg TL.tl e
    rw [tl_mk, e0] at this
    have e : TL.numL n = TL.numL 0 := by
      rw [TL.numL_lt (n := 0) (by decide)]
      simpa using this
    exact TL.numL_inj e
  · rintro rfl
    refine TL.ext_tl ?_
    rw [tl_mk, e0, TL.numL_lt (by decide)]
theorem numS_eq {n m : Nat} : numS n = numS m ↔ n = m := ⟨fun e => TL.numL_inj (by rw [← tl_numS, ← tl_numS, e]), fun e => by rw [e]⟩
theorem numS_lit0 : numS 0 = "0" := by decide +kernel
theorem numS_lit1 : numS 1 = "1" := by decide +kernel
theorem mk_numL (n : Nat) : mkS (TL.numL n) = numS n := TL.ext_tl (by rw [tl_mk, tl_numS])
/-- ahead of the slash, with its sign -/
def abvW (w : Str) : Str := mkS (cut47 (TL.tl w)).1
theorem abv_eq (w : Str) : abvW w = if negW w = true then mkS (45 :: (cut47 (bodyW w)).1) else fstW w := by
  unfold abvW fstW
  rw [cut_w]
  by_cases h : negW w = true
  · rw [if_pos h, if_pos h]
  · rw [if_neg h, if_neg h]
theorem abv_rp (w : Str) : Txt.removeprefix (abvW w) "-" = fstW w := by
  rw [abv_eq]
  by_cases h : negW w = true
  · rw [if_pos h]
    exact rp_yes _
  · rw [if_neg h]
    exact rp_no (fst_head h)
theorem abv_len {w : Str} {b : Nat} (h : w.length ≤ b) : (abvW w).length ≤ b := by
  have e := congrArg List.length (cutL_eq (TL.tl w))
  rw [List.length_append] at e
  rw [TL.len_tl] at h
  unfold abvW
  rw [mk_len]
  omega
theorem fst_len {w : Str} {b : Nat} (h : w.length ≤ b) : (fstW w).length ≤ b := by
  have := abv_len h
  rw [abv_eq] at this
  by_cases c : negW w = true
  · rw [if_pos c, mk_len, List.length_cons] at this
    unfold fstW
    rw [mk_len]
    omega
  · rwa [if_neg c] at this
theorem fig_len {x : Str} (h : figB x = true) : x.length ≤ 12 := by
  unfold figB at h
  simp only [Bool.and_eq_true, decide_eq_true_eq] at h
  exact h.1.2
theorem abv_13 {w : Str} (h : figB (fstW w) = true) : (abvW w).length ≤ 13 := by
  have l := fig_len h
  rw [abv_eq]
  by_cases c : negW w = true
  · rw [if_pos c, mk_len, List.length_cons]
    unfold fstW at l
    rw [mk_len] at l
    omega
  · rw [if_neg c]
    omega
theorem abv_mz {w : Str} (h : figB (fstW w) = true) : decide (V.str (abvW w) = V.str "-0") = (negW w && decide (fstW w = "0")) := by
  obtain ⟨n, n12, e⟩ := fig_num' h
  have e2 : (cut47 (bodyW w)).1 = TL.numL n := by
    have := congrArg TL.tl e
    unfold fstW at this
    rwa [tl_mk, tl_numS] at this
  rw [Bool.eq_iff_iff, decide_eq_true_iff, Bool.and_eq_true, decide_eq_true_iff, e, abv_eq]
  by_cases c : negW w = true
  · rw [if_pos c, e2]
    constructor
    · intro z
      injection z with z
      rw [neg0 n12] at z
      rw [z]
      exact ⟨c, numS_lit0⟩
    · rintro ⟨_, z⟩
      have : n = 0 := numS_eq.mp (z.trans numS_lit0.symm)
      rw [(neg0 n12).mpr this]
  · rw [if_neg c, e]
    constructor
    · intro z
      injection z with z
      have := congrArg TL.tl z
      rw [tl_numS, show TL.tl (Str.ofString "-0") = [45, 48] by decide +kernel] at this
      have := TL.numL_digits n 45 (by rw [this]; simp)
      omega
    · rintro ⟨z, _⟩
      exact absurd z c
theorem top_val {w : Str} (h : figB (fstW w) = true) (h' : (negW w && decide (fstW w = "0")) = false) : intText? (abvW w) = some (topW w) ∧ (decide (0 < topW w)) = (!negW w && !decide (fstW w = "0")) := by
  obtain ⟨n, n12, e⟩ := fig_num' h
  have e2 : (cut47 (bodyW w)).1 = TL.numL n := by
    have := congrArg TL.tl e
    unfold fstW at this
    rwa [tl_mk, tl_numS] at this
  have ev : valS (fstW w) = (n : Int) := by
    unfold valS
    rw [e, val_num n12]
    rfl
  have z0 : decide (numS n = "0") = decide (n = 0) := by
    rw [Bool.eq_iff_iff, decide_eq_true_iff, decide_eq_true_iff]
    exact ⟨fun z => numS_eq.mp (z.trans numS_lit0.symm), fun z => by rw [z]; exact numS_lit0⟩
  unfold topW
  rw [e, z0] at h'
  rw [ev, abv_eq, e, z0]
  by_cases c : negW w = true
  · rw [c] at h' ⊢
    have n0 : n ≠ 0 := by simpa using h'
    rw [if_pos rfl, if_pos rfl, e2]
    have et : mkS (45 :: TL.numL n) = topS' (-(n : Int)) := TL.ext_tl (by
      rw [tl_mk, tl_top, if_pos (by omega), show (-(n : Int)).natAbs = n by omega]
      rfl)
    rw [et]
    refine ⟨int_top (by rw [show (-(n : Int)).natAbs = n by omega]; exact n12), ?_⟩
    rw [decide_eq_false (by omega)]
    rfl
  · have c' : negW w = false := by simpa using c
    rw [c', if_neg (by decide), if_neg (by decide)]
    refine ⟨val_num n12, ?_⟩
    rw [Bool.not_false, Bool.true_and, Bool.eq_iff_iff, decide_eq_true_iff, Bool.not_eq_true', decide_eq_false_iff_not]
    omega
section
variable {P : Program} {w : World} {K : PySem.W.Frag} {mg : Str → Option Value} {base : Heap}
def spPg (K : PySem.W.Frag) (Ts : TbS) : Sp := fun vs H Q _ => ∃ x : Str, vs = [.str x] ∧ x.length ≤ 1000 ∧ TBs Ts H ∧
  (numB x = false → ∀ H', ExT H H' → TBs Ts H' → Q .non H') ∧ (numB x = true → ∀ c n m H', ExT H H' → TBs Ts H' → SqT K H' c [.int n, .int m] → decide (0 < n) = posW x → Q (.ref c) H')
theorem ok_parse_fraction (T : Txt K mg) (tb_are_figures : GxR.TabB base mg T.c_are_figures T.P_are_figures) : FnOk P w K mg base CX0 3 T.d_parse_fraction.a T.d_parse_fraction.fd ["word"] (spPg K (tts T)) := by
  refine T.d_parse_fraction.F.ok sc_parse_fraction (fun vs H Q E h => ?_) (fun cdv A outer s H vs Q E hr h => ?_)
  · obtain ⟨x, rfl, _⟩ := h
    rfl
  · obtain ⟨x, rfl, xl, ht, k0, k1⟩ := h
    refine ⟨_, (pss_cons (ps_asg (pe_partition (pv 0) pe_str) (pg_tup (by rfl) (pgs_cons (pg_name (i := 1) sc_parse_fraction.nd rfl (Or.inl rfl)) (pgs_cons (pg_name (i := 2) sc_parse_fraction.nd rfl (Or.inl rfl)) (pgs_cons (pg_name (i := 3) sc_parse_fraction.nd rfl (Or.inl rfl)) pgs_nil)))))
      (pss_cons (ps_set (i := 4) sc_parse_fraction.nd rfl (Or.inl rfl) (pe_m1 PySem.F.slot_str_removeprefix PySem.F.type_str_removeprefix mt_removeprefix (pv 1) pe_str))
      (pss_cons (ps_if (PW.pt (pw_or (pt_not (pt_val (pe_call (ok_are_figures T tb_are_figures) (hr.mono (by decide)) (by rfl) T.d_are_figures.g T.d_are_figures.F.kp T.d_are_figures.b .nil pass0 (pa_cons (pv 4) pa_nil)))) (pw_or1 (pt_cmpR op_eq (pv 1) pe_str (nomark _))))) (pss_one (ps_ret pe_non)) pss_nil)
      (pss_cons (ps_if (pt_not (pt_truth (pv 2) (by intro _; rfl))) (pss_one (ps_ret (pe_tup (pa_cons (pe_callTy call_int_str (by rfl) T.n_int (by decide +kernel) (pa_cons (pv 1) pa_nil)) (pa_cons pe_int pa_nil))))) pss_nil)
      (pss_cons (ps_if (PW.pt (pw_or (pt_not (pt_val (pe_call (ok_are_figures T tb_are_figures) (hr.mono (by decide)) (by rfl) T.d_are_figures.g T.d_are_figures.F.kp T.d_are_figures.b .nil pass0 (pa_cons (pv 3) pa_nil)))) (pw_or1 (pt_cmpR op_eq (pv 3) pe_str (nomark _))))) (pss_one (ps_ret pe_non)) pss_nil)
      (pss_cons (ps_set (i := 5) sc_parse_fraction.nd rfl (Or.inl rfl) (pe_tup (pa_cons (pe_callTy call_int_str (by rfl) T.n_int (by decide +kernel) (pa_cons (pv 1) pa_nil)) (pa_cons (pe_callTy call_int_str (by rfl) T.n_int (by decide +kernel) (pa_cons (pv 3) pa_nil)) pa_nil))))
      (pss_one (ps_ret (pe_ifExp (pt_val (pe_call (ok_is_fraction T) (hr.mono (by decide)) (by rfl) T.d_is_fraction.g T.d_is_fraction.F.kp T.d_is_fraction.b .nil pass0 (pa_cons (pv 5) pa_nil))) (pv 5) pe_non))))))))), ?_⟩
    have al := abv_len xl
    have fl := fst_len xl
    obtain ⟨sl, bl, ep, hsl⟩ : ∃ sl bl : Str, Txt.partition x "/" = (abvW x, sl, bl) ∧ (match restW x with
        | [] => sl = Str.empty
        | p :: ps => sl = Str.ofString "/" ∧ bl = mkS (p ++ joinL ps)) := by
      have h := part_mk x
      have hc := cut_w x
      have e2 : (cut47 (TL.tl x)).2 = restW x := by
        rw [hc]
        rfl
      rw [e2] at h
      cases hr : restW x with
      | nil =>
        rw [hr] at h
        exact ⟨_, _, h, rfl⟩
      | cons p ps =>
        rw [hr] at h
        exact ⟨_, _, h, rfl, rfl⟩
    refine n_seq ?_
    refine ⟨_, rfl, ⟨_, rfl⟩, _, _, rfl, rfl, by decide +kernel, Nat.le_trans xl (by decide), fun t ft => ?_⟩
    rw [ep]
    have xt := Ex.new (o := .tup [V.str (abvW x), V.str sl, V.str bl]) ft
    refine ⟨t, _, rfl, SqT.of upd_same, rfl, _, _, rfl, _, _, rfl, _, _, rfl, rfl, ?_⟩
    have t1 := ht.ex xt
    generalize upd H t (.tup [V.str (abvW x), V.str sl, V.str bl]) = H1 at xt t1
    have E1 : ExT H H1 := Ex.t xt
    clear xt
    dsimp only
    refine n_seq ?_
    refine ⟨_, rfl, ⟨_, rfl⟩, _, _, rfl, rfl, Nat.le_trans al (by decide), ?_⟩
    rw [abv_rp]
    dsimp only
    refine n_seq ?_
    refine ⟨_, rfl, fstW x, rfl, fl, t1, fun H2 e2 t2 => ?_⟩
    have E2 := E1.trans e2
    by_cases f : figB (fstW x) = true
    · rw [f]
      refine ⟨_, rfl, ifF' rfl ?_⟩
      refine ⟨_, rfl, rfl, ?_⟩
      rw [abv_mz f]
      by_cases z : (negW x && decide (fstW x = "0")) = true
      · rw [z]
        refine ⟨_, rfl, ifT' rfl ?_⟩
        refine k0 ?_ H2 E2 t2
        unfold numB
        rw [z, Bool.not_true, Bool.and_false, Bool.false_and]
      have z' : (negW x && decide (fstW x = "0")) = false := by simpa using z
      obtain ⟨iv, pv⟩ := top_val f z'
      rw [z']
      refine ⟨_, rfl, ifF' rfl ?_⟩
      refine n_next ?_
      dsimp only
      refine n_seq ?_
      have nb : numB x = match restW x with
          | [] => true
          | [b] => (figB (mkS b) && !decide (mkS b = "1")) && frB (.tuple [.int (topW x), .int (valS (mkS b))])
          | _ => false := by
        unfold numB
        rw [f, z', Bool.not_false, Bool.true_and, Bool.true_and]
        all_goals rfl
      cases hr : restW x with
      | nil =>
        rw [hr] at hsl nb
        obtain rfl : sl = Str.empty := hsl
        have hb : numB x = true := nb
        refine ⟨_, rfl, false, ⟨by decide, by decide +kernel⟩, ifT' rfl ?_⟩
        refine ⟨_, rfl, _, topW x, rfl, iv, Nat.le_trans (abv_13 f) (by decide), ?_⟩
        refine ⟨by show 2 ≤ sizeLine; decide, fun t3 ft3 => ?_⟩
        have x3 := Ex.new (o := .tup [V.int (topW x), V.int 1]) ft3
        refine k1 hb t3 _ _ _ (E2.trans (Ex.t x3)) (t2.ex x3) (SqT.of upd_same) ?_
        rw [pv]
        unfold posW
        rw [hb, Bool.true_and]
      | cons p ps =>
        rw [hr] at hsl nb
        obtain ⟨rfl, rfl⟩ : sl = Str.ofString "/" ∧ bl = mkS (p ++ joinL ps) := hsl
        refine ⟨_, rfl, true, ⟨by decide +kernel, by decide +kernel⟩, ifF' rfl ?_⟩
        refine n_next ?_
        dsimp only
        refine n_seq ?_
        have bl1000 : (mkS (p ++ joinL ps)).length ≤ 1000 := by
          have e := congrArg List.length (cutL_eq (TL.tl x))
          have hc := cut_w x
          have e2 : (cut47 (TL.tl x)).2 = p :: ps := by
            rw [hc]
            exact hr
          rw [e2, List.length_append] at e
          have e3 : joinL (p :: ps) = 47 :: (p ++ joinL ps) := rfl
          rw [e3, List.length_cons] at e
          rw [TL.len_tl] at xl
          rw [mk_len]
          omega
        refine ⟨_, rfl, _, rfl, bl1000, t2, fun H3 e3 t3 => ?_⟩
        have E3 := E2.trans e3
        by_cases g : figB (mkS (p ++ joinL ps)) = true
        · have ps0 : ps = [] := by
            cases ps with
            | nil => rfl
            | cons p2 ps2 =>
              exfalso
              obtain ⟨n, _, e⟩ := fig_num' g
              have := congrArg TL.tl e
              rw [tl_mk, tl_numS] at this
              have hd := TL.numL_digits n 47 (by rw [← this]; simp [joinL])
              omega
          subst ps0
          have ej : p ++ joinL [] = p := by simp [joinL]
          rw [ej] at g ⊢
          have nb2 : numB x = (!decide (mkS p = "1") && frB (.tuple [.int (topW x), .int (valS (mkS p))])) := by
            rw [nb]
            show ((figB (mkS p) && !decide (mkS p = "1")) && frB _) = _
            rw [g, Bool.true_and]
          obtain ⟨n, n12, en⟩ := fig_num' g
          have ev : valS (mkS p) = (n : Int) := by
            unfold valS
            rw [en, val_num n12]
            rfl
          rw [g]
          refine ⟨_, rfl, ifF' rfl ?_⟩
          refine ⟨_, rfl, rfl, ?_⟩
          have d1 : decide (V.str (mkS p) = V.str "1") = decide (mkS p = "1") := by
            rw [Bool.eq_iff_iff, decide_eq_true_iff, decide_eq_true_iff]
            exact ⟨fun z => by injection z, fun z => by rw [z]⟩
          rw [d1]
          by_cases o : mkS p = "1"
          · rw [decide_eq_true o]
            refine ⟨_, rfl, ifT' rfl ?_⟩
            exact k0 (by rw [nb2, decide_eq_true o]; rfl) H3 E3 t3
          rw [decide_eq_false o]
          refine ⟨_, rfl, ifF' rfl ?_⟩
          refine n_next ?_
          dsimp only
          refine n_seq ?_
          refine ⟨_, rfl, _, topW x, rfl, iv, Nat.le_trans (abv_13 f) (by decide), ?_⟩
          refine ⟨_, rfl, _, (n : Int), rfl, by rw [en]; exact val_num n12, Nat.le_trans (fig_len g) (by decide), ?_⟩
          refine ⟨by show 2 ≤ sizeLine; decide, fun t4 ft4 => ?_⟩
          have x4 := Ex.new (o := .tup [V.int (topW x), V.int (n : Int)]) ft4
          have E4 := E3.trans (Ex.t x4)
          have t4' := t3.ex x4
          have hS : SqT K (upd H3 t4 (.tup [V.int (topW x), V.int (n : Int)])) t4 [V.int (topW x), V.int (n : Int)] := SqT.of upd_same
          generalize upd H3 t4 (.tup [V.int (topW x), V.int (n : Int)]) = H4 at E4 t4' hS
          dsimp only
          refine ⟨_, rfl, sysModules, .ref t4, .tuple [.int (topW x), .int (n : Int)], rfl, .tup hS (.cons (.int _) (.cons (.int _) .nil)), trivial, fun H5 e5 => ?_⟩
          rw [decide_eq_false o, ev, Bool.not_false, Bool.true_and] at nb2
          rw [← nb2]
          by_cases b : numB x = true
          · rw [b]
            refine ⟨_, rfl, ifT' rfl ?_⟩
            refine ⟨_, rfl, k1 b t4 _ _ H5 (E4.trans (Ex.t e5)) (t4'.ex e5) (ex_t e5 hS) ?_⟩
            rw [pv]
            unfold posW
            rw [b, Bool.true_and]
          · have b' : numB x = false := by simpa using b
            rw [b']
            refine ⟨_, rfl, ifF' rfl ?_⟩
            exact k0 b' H5 (E4.trans (Ex.t e5)) (t4'.ex e5)
        · have g' : figB (mkS (p ++ joinL ps)) = false := by simpa using g
          rw [g']
          refine ⟨_, rfl, ifT' rfl ?_⟩
          refine k0 ?_ H3 E3 t3
          rw [nb]
          cases ps with
          | nil =>
            have ej : p ++ joinL [] = p := by simp [joinL]
            rw [ej] at g'
            show ((figB (mkS p) && !decide (mkS p = "1")) && frB _) = _
            rw [g']
            rfl
          | cons _ _ => rfl
    · have f' : figB (fstW x) = false := by simpa using f
      have nb : numB x = false := by
        unfold numB
        rw [f']
        rfl
      rw [f']
      refine ⟨_, rfl, ifT' rfl ?_⟩
      exact k0 nb H2 E2 t2
end
/-! ### the reader: what it holds -/
def rdF (lw : Addr) (a s t p : Nat) : List (Str × V) := [("words", .ref lw), ("at", .int (a : Nat)), ("step_count", .int (s : Nat)), ("term_parts", .int (t : Nat)), ("all_parts", .int (p : Nat))]
section
variable {lw : Addr} {a s t p b : Nat}
theorem rd_words : (rdF lw a s t p).lookup ("words" : Str) = some (.ref lw) := by kernel_rfl
theorem rd_at : (rdF lw a s t p).lookup ("at" : Str) = some (.int (a : Nat)) := by kernel_rfl
theorem rd_sc : (rdF lw a s t p).lookup ("step_count" : Str) = some (.int (s : Nat)) := by kernel_rfl
theorem rd_tp : (rdF lw a s t p).lookup ("term_parts" : Str) = some (.int (t : Nat)) := by kernel_rfl
theorem rd_ap : (rdF lw a s t p).lookup ("all_parts" : Str) = some (.int (p : Nat)) := by kernel_rfl
theorem pt_at : putF ("at" : Str) (.int (b : Nat)) (rdF lw a s t p) = rdF lw b s t p := by kernel_rfl
theorem pt_sc : putF ("step_count" : Str) (.int (b : Nat)) (rdF lw a s t p) = rdF lw a b t p := by kernel_rfl
theorem pt_tp : putF ("term_parts" : Str) (.int (b : Nat)) (rdF lw a s t p) = rdF lw a s b p := by kernel_rfl
theorem pt_ap : putF ("all_parts" : Str) (.int (b : Nat)) (rdF lw a s t p) = rdF lw a s t b := by kernel_rfl
theorem rd_peek : (rdF lw a s t p).lookup ("peek" : Str) = none := by kernel_rfl
theorem rd_expect : (rdF lw a s t p).lookup ("expect" : Str) = none := by kernel_rfl
theorem rd_count : (rdF lw a s t p).lookup ("count_parts" : Str) = none := by kernel_rfl
theorem rd_whole : (rdF lw a s t p).lookup ("read_whole_term" : Str) = none := by kernel_rfl
theorem rd_term : (rdF lw a s t p).lookup ("read_term" : Str) = none := by kernel_rfl
theorem rd_step : (rdF lw a s t p).lookup ("read_step" : Str) = none := by kernel_rfl
theorem rd_pay : (rdF lw a s t p).lookup ("read_pay" : Str) = none := by kernel_rfl
theorem rd_weight : (rdF lw a s t p).lookup ("read_weight" : Str) = none := by kernel_rfl
theorem rd_members : (rdF lw a s t p).lookup ("read_members" : Str) = none := by kernel_rfl
theorem rd_mix : (rdF lw a s t p).lookup ("read_mix" : Str) = none := by kernel_rfl
theorem rd_finish : (rdF lw a s t p).lookup ("finish" : Str) = none := by kernel_rfl
end
/-- the reader at rd, its words at lw -/
structure RS (C : Addr) (H : Hp) (rd dx lw : Addr) (ws : List Str) (a s t p : Nat) : Prop where
  i : H rd = some (.ins C dx (rdF lw a s t p))
  w : H lw = some (.lst (ws.map V.str))
/-- all but the reader and the tables is as it was -/
def RX (rd : Addr) (H H' : Hp) : Prop := ∀ b o, b ≠ rd → (∀ ps, o ≠ HO.tbl ps) → H b = some o → H' b = some o
section
variable {K : PySem.W.Frag} {rd : Addr} {H H1 H' : Hp}
theorem RX.refl : RX rd H H := fun _ _ _ _ h => h
theorem RX.trans (a : RX rd H H1) (b : RX rd H1 H') : RX rd H H' := fun c o n z h => b c o n z (a c o n z h)
theorem ExT.rx (a : ExT H H') : RX rd H H' := fun c o _ z h => a c o z h
theorem Ex.rx (a : Ex H H') : RX rd H H' := fun c o _ _ h => a c o h
theorem RX.upd {o : HO} (a : RX rd H H') : RX rd H (upd H' rd o) := fun c u n z h => by
  rw [upd_ne n]
  exact a c u n z h
theorem rx_sqt {c : Addr} {ys : List V} (hp : tupd H rd) (e : RX rd H H') (h : SqT K H c ys) : SqT K H' c ys := by
  rcases h with (h | ⟨o, h⟩) | h
  · exact .inl (.inl (e c _ (by rintro rfl; exact hp.1 ys h) (fun _ z => nomatch z) h))
  · exact .inl (.inr ⟨o, e c _ (by rintro rfl; exact hp.2 ys o h) (fun _ z => nomatch z) h⟩)
  · exact .inr h
theorem Fr.rx {b : Nat} {q : Rat} {z : V} (hp : tupd H rd) (e : RX rd H H') (h : Fr K b q z H) : Fr K b q z H' := by
  obtain ⟨c, rfl, h, x⟩ := h
  exact ⟨c, rfl, rx_sqt hp e h, x⟩
mutual
theorem Dq.rx {p : Addr} (hp : tupd H rd) (e : RX rd H H') : ∀ (d : PyData) (v : V), flatD d = true → Dq K p H v d → Dq K p H' v d
  | _, _, _, .non => .non
  | _, _, _, .bl b => .bl b
  | _, _, _, .int i => .int i
  | _, _, _, .str x => .str x
  | _, _, f, .lst n m h hs => by simp [flatN] at f
  | _, _, f, .tup h hs => .tup (rx_sqt hp e h) (DqAll.rx hp e _ _ (by simpa [flatN] using f) hs)
  | _, _, f, .emp h => by simp [flatN] at f
theorem DqAll.rx {p : Addr} (hp : tupd H rd) (e : RX rd H H') : ∀ (ds : List PyData) (vs : List V), flatDA ds = true → DqAll K p H vs ds → DqAll K p H' vs ds
  | _, _, _, .nil => .nil
  | _, _, f, .cons h hs => by
    simp only [flatNA, Bool.and_eq_true] at f
    exact .cons (Dq.rx hp e _ _ f.1 h) (DqAll.rx hp e _ _ f.2 hs)
end
variable {C dx lw : Addr} {ws : List Str} {a s t p : Nat}
theorem RS.tu (h : RS C H rd dx lw ws a s t p) : tupd H rd := ⟨fun ys => by rw [h.i]; exact (nofun), fun ys o => by rw [h.i]; exact (nofun)⟩
theorem RS.ne (h : RS C H rd dx lw ws a s t p) : lw ≠ rd := by
  rintro rfl
  have := h.i
  rw [h.w] at this
  cases this
theorem RS.ex (h : RS C H rd dx lw ws a s t p) (e : Ex H H') : RS C H' rd dx lw ws a s t p := ⟨e _ _ h.i, e _ _ h.w⟩
theorem RS.xt (h : RS C H rd dx lw ws a s t p) (e : ExT H H') : RS C H' rd dx lw ws a s t p := ⟨e _ _ (fun _ z => nomatch z) h.i, e _ _ (fun _ z => nomatch z) h.w⟩
theorem RS.rx {a' s' t' p' : Nat} (h : RS C H rd dx lw ws a s t p) (e : RX rd H H') (i : H' rd = some (.ins C dx (rdF lw a' s' t' p'))) : RS C H' rd dx lw ws a' s' t' p' := ⟨i, e _ _ h.ne (fun _ z => nomatch z) h.w⟩
theorem RS.put {a' s' t' p' : Nat} (h : RS C H rd dx lw ws a s t p) : RS C (upd H rd (.ins C dx (rdF lw a' s' t' p'))) rd dx lw ws a' s' t' p' := h.rx RX.refl.upd upd_same
theorem RS.tb {Ts : TbS} {o : HO} (h : RS C H rd dx lw ws a s t p) (k : TBs Ts H) : TBs Ts (upd H rd o) := k.keep (p := rd) (fun ps => by rw [h.i]; exact (nofun)) (fun f => by rw [h.i]; exact (nofun)) fun b u n z => by
  rw [upd_ne n]
  exact z
end
/-! ### its small methods -/
section
variable {K : PySem.W.Frag} {mg : Str → Option Value} {T : Txt K mg} {rd dx lw : Addr} {ws : List Str} {a s t p i : Nat} {H : Hp} {σ : L2.St} {te : TE}
theorem ev_at (h0 : σ[i]? = some (some (.ref rd))) (hR : RS T.K_Reader.C H rd dx lw ws a s t p) : Ev (tFld K (tVar i) "at") σ H (.int (a : Nat)) := fun H1 e Q k => ⟨_, h0, rd, T.K_Reader.C, dx, _, _, rfl, (hR.ex e).i, T.K_Reader.cl, T.f_at, rd_at, k H1 (Ex.refl _)⟩
theorem ev_sc (h0 : σ[i]? = some (some (.ref rd))) (hR : RS T.K_Reader.C H rd dx lw ws a s t p) : Ev (tFld K (tVar i) "step_count") σ H (.int (s : Nat)) := fun H1 e Q k => ⟨_, h0, rd, T.K_Reader.C, dx, _, _, rfl, (hR.ex e).i, T.K_Reader.cl, T.f_step_count, rd_sc, k H1 (Ex.refl _)⟩
theorem ev_tp (h0 : σ[i]? = some (some (.ref rd))) (hR : RS T.K_Reader.C H rd dx lw ws a s t p) : Ev (tFld K (tVar i) "term_parts") σ H (.int (t : Nat)) := fun H1 e Q k => ⟨_, h0, rd, T.K_Reader.C, dx, _, _, rfl, (hR.ex e).i, T.K_Reader.cl, T.f_term_parts, rd_tp, k H1 (Ex.refl _)⟩
theorem ev_ap (h0 : σ[i]? = some (some (.ref rd))) (hR : RS T.K_Reader.C H rd dx lw ws a s t p) : Ev (tFld K (tVar i) "all_parts") σ H (.int (p : Nat)) := fun H1 e Q k => ⟨_, h0, rd, T.K_Reader.C, dx, _, _, rfl, (hR.ex e).i, T.K_Reader.cl, T.f_all_parts, rd_ap, k H1 (Ex.refl _)⟩
theorem ev_words (h0 : σ[i]? = some (some (.ref rd))) (hR : RS T.K_Reader.C H rd dx lw ws a s t p) : Ev (tFld K (tVar i) "words") σ H (.ref lw) := fun H1 e Q k => ⟨_, h0, rd, T.K_Reader.C, dx, _, _, rfl, (hR.ex e).i, T.K_Reader.cl, T.f_words, rd_words, k H1 (Ex.refl _)⟩
theorem ev_lenW (h0 : σ[i]? = some (some (.ref rd))) (hR : RS T.K_Reader.C H rd dx lw ws a s t p) : Ev (tCB (fun xs H_1 Q => ∃ p ys, xs = [V.ref p] ∧ (SqL K H_1 p ys ∨ SqT K H_1 p ys) ∧ Q (V.int ys.length) H_1) (tCons (tFld K (tVar i) "words") tNil)) σ H (.int (ws.length : Nat)) := fun H1 e Q k =>
  (ev_words h0 hR) H1 e _ fun H2 e2 => ⟨lw, ws.map V.str, rfl, .inl (SqL.of ((hR.ex e).ex e2).w), by rw [List.length_map]; exact k H2 e2⟩
/-- self.f += n -/
theorem s_augAt {n : Nat} {D : Ends} (h0 : σ[i]? = some (some (.ref rd))) (hR : RS T.K_Reader.C H rd dx lw ws a s t p) (hv : Ev te σ H (.int (n : Nat))) (k : ∀ H', RX rd H H' → RS T.K_Reader.C H' rd dx lw ws (a + n) s t p → (∀ Ts, TBs Ts H → TBs Ts H') → D.nx σ H') : sFldAug K (tVar i) te rAdd "at" D σ H :=
  ⟨_, h0, rd, T.K_Reader.C, dx, _, _, rfl, hR.i, T.K_Reader.cl, T.f_at, rd_at, hv H (Ex.refl _) _ fun H2 e2 => ⟨_, _, rfl, rfl, dx, _, (hR.ex e2).i, by show 5 < 1000; decide, by
    have hR2 := hR.ex e2
    rw [show ((a : Nat) : Int) + ((n : Nat) : Int) = ((a + n : Nat) : Int) from rfl, pt_at]
    exact k _ ((Ex.rx e2).trans RX.refl.upd) hR2.put fun Ts ht => hR2.tb (ht.ex e2)⟩⟩
theorem s_augSc {n : Nat} {D : Ends} (h0 : σ[i]? = some (some (.ref rd))) (hR : RS T.K_Reader.C H rd dx lw ws a s t p) (hv : Ev te σ H (.int (n : Nat))) (k : ∀ H', RX rd H H' → RS T.K_Reader.C H' rd dx lw ws a (s + n) t p → (∀ Ts, TBs Ts H → TBs Ts H') → D.nx σ H') : sFldAug K (tVar i) te rAdd "step_count" D σ H :=
  ⟨_, h0, rd, T.K_Reader.C, dx, _, _, rfl, hR.i, T.K_Reader.cl, T.f_step_count, rd_sc, hv H (Ex.refl _) _ fun H2 e2 => ⟨_, _, rfl, rfl, dx, _, (hR.ex e2).i, by show 5 < 1000; decide, by
    have hR2 := hR.ex e2
    rw [show ((s : Nat) : Int) + ((n : Nat) : Int) = ((s + n : Nat) : Int) from rfl, pt_sc]
    exact k _ ((Ex.rx e2).trans RX.refl.upd) hR2.put fun Ts ht => hR2.tb (ht.ex e2)⟩⟩
theorem s_augTp {n : Nat} {D : Ends} (h0 : σ[i]? = some (some (.ref rd))) (hR : RS T.K_Reader.C H rd dx lw ws a s t p) (hv : Ev te σ H (.int (n : Nat))) (k : ∀ H', RX rd H H' → RS T.K_Reader.C H' rd dx lw ws a s (t + n) p → (∀ Ts, TBs Ts H → TBs Ts H') → D.nx σ H') : sFldAug K (tVar i) te rAdd "term_parts" D σ H :=
  ⟨_, h0, rd, T.K_Reader.C, dx, _, _, rfl, hR.i, T.K_Reader.cl, T.f_term_parts, rd_tp, hv H (Ex.refl _) _ fun H2 e2 => ⟨_, _, rfl, rfl, dx, _, (hR.ex e2).i, by show 5 < 1000; decide, by
    have hR2 := hR.ex e2
    rw [show ((t : Nat) : Int) + ((n : Nat) : Int) = ((t + n : Nat) : Int) from rfl, pt_tp]
    exact k _ ((Ex.rx e2).trans RX.refl.upd) hR2.put fun Ts ht => hR2.tb (ht.ex e2)⟩⟩
theorem s_augAp {n : Nat} {D : Ends} (h0 : σ[i]? = some (some (.ref rd))) (hR : RS T.K_Reader.C H rd dx lw ws a s t p) (hv : Ev te σ H (.int (n : Nat))) (k : ∀ H', RX rd H H' → RS T.K_Reader.C H' rd dx lw ws a s t (p + n) → (∀ Ts, TBs Ts H → TBs Ts H') → D.nx σ H') : sFldAug K (tVar i) te rAdd "all_parts" D σ H :=
  ⟨_, h0, rd, T.K_Reader.C, dx, _, _, rfl, hR.i, T.K_Reader.cl, T.f_all_parts, rd_ap, hv H (Ex.refl _) _ fun H2 e2 => ⟨_, _, rfl, rfl, dx, _, (hR.ex e2).i, by show 5 < 1000; decide, by
    have hR2 := hR.ex e2
    rw [show ((p : Nat) : Int) + ((n : Nat) : Int) = ((p + n : Nat) : Int) from rfl, pt_ap]
    exact k _ ((Ex.rx e2).trans RX.refl.upd) hR2.put fun Ts ht => hR2.tb (ht.ex e2)⟩⟩
end
/-! ### the reader's small methods, either way -/
theorem rd_raiseE {C : Addr} {v : V} {σ : L2.St} {H : Hp} {te : TE} {E : XK} (hv : Ev te σ H v) (k : Er C v H E) : tMkO C (spInit C) [] (tCons te tNil) σ H E := by
  refine hv H (Ex.refl _) _ fun H1 e1 => ⟨by show 1 ≤ 1000; decide, fun a ha => ⟨a, v, rfl, upd_same, fun dx kn H' h1 ne e1' e2 keep => ⟨rfl, dx, _, e1', e2, ?_, ?_⟩⟩⟩
  · rw [upd_ne ne] at h1
    exact h1
  · rw [upd_ne ne] at h1
    refine k dx kn _ (fun b o hb => ?_) upd_same
    have hb1 := e1 b o hb
    have n1 : b ≠ a := ne_of_none hb1 ha
    rw [upd_ne (ne_of_none hb1 h1), del_ne n1]
    exact keep b o n1 (by rw [upd_ne n1]; exact hb1)
section
variable {P : Program} {w : World} {K : PySem.W.Frag} {mg : Str → Option Value} {base : Heap}
def spPkG (C CB : Addr) : Sp := fun vs H Q E => ∃ (rd dx lw : Addr) (ws : List Str) (a s t p : Nat), vs = [.ref rd] ∧ RS C H rd dx lw ws a s t p ∧ a ≤ ws.length ∧
  (∀ x, ws[a]? = some x → ∀ H', Ex H H' → Q (.str x) H') ∧ (ws[a]? = none → ∀ H', Ex H H' → Er CB (.int (a : Nat)) H' E)
theorem ok_Reader_peek (T : Txt K mg) : FnOk P w K mg base (L2.CX P w) 4 T.d_Reader_peek.a T.d_Reader_peek.fd ["self"] (spPkG T.K_Reader.C T.E_BadText.C) := by
  refine T.d_Reader_peek.F.okX sc_Reader_peek (fun vs H Q E h => ?_) (fun cdv A outer s H vs Q E hr h => ?_)
  · obtain ⟨rd, dx, lw, ws, a, s, t, p, rfl, _⟩ := h
    rfl
  · obtain ⟨rd, dx, lw, ws, a, s', t, p, rfl, hR, al, k1, k0⟩ := h
    refine ⟨_, (pss_cons (ps_if (pt_cmpR op_eq (pe_fld (pv 0) rfl) (pe_callB call_len_seq (by rfl) T.n_len (by decide +kernel) (pa_cons (pe_fld (pv 0) rfl) pa_nil)) (nomark _)) (pss_one (ps_raise rfl (takes_of rfl rfl rfl rfl) (pmk_oex T.E_BadText.x.oex T.E_BadText.x.i T.E_BadText.x.t (ok_i_BadText T) (hr.mono (by first | decide | omega)) T.E_BadText.b .nil pass0 (by rfl) T.E_BadText.g (pa_cons (pe_fld (pv 0) rfl) pa_nil)))) pss_nil)
      (pss_one (ps_ret (pe_ix ix_list (pe_fld (pv 0) rfl) (pe_fld (pv 0) rfl) (fun _ _ => rfl))))), ?_⟩
    refine n_seq ?_
    refine s_if (et_test (ev_op (ev_at rfl hR) (ev_lenW rfl hR) (rv_eq rfl))) (fun z H1 e1 => ?_) fun z H1 e1 => ?_
    · have z' := of_decide_eq_true z
      injection z' with z'
      have : ws[a]? = none := List.getElem?_eq_none (by omega)
      exact rd_raiseE (ev_at (T := T) rfl (hR.ex e1)) (k0 this H1 e1)
    · have z' := of_decide_eq_false z
      refine n_next ?_
      have hR1 := hR.ex e1
      have al' : a < ws.length := by
        rcases Nat.lt_or_ge a ws.length with h | h
        · exact h
        · exact absurd (by rw [show a = ws.length by omega]) z'
      have hx : ws[a]? = some ws[a] := List.getElem?_eq_getElem al'
      have ix : Ev (tOp (rIxL K) (tFld K (tVar 0) "words") (tFld K (tVar 0) "at")) [some (.ref rd)] H1 (.str ws[a]) := fun H2 e2 Q k =>
        (ev_words (T := T) rfl hR1) H2 e2 _ fun H3 e3 => (ev_at (T := T) rfl hR1) H3 (e2.trans e3) _ fun H4 e4 =>
          ⟨lw, ws.map V.str, _, V.str ws[a], rfl, rfl, SqL.of (((hR1.ex e2).ex e3).ex e4).w, atI_nat (by rw [List.getElem?_map, hx]; rfl), k H4 (e3.trans e4)⟩
      exact s_ret ix fun H4 e4 => k1 _ hx H4 (e1.trans e4)
def spExG (C CB : Addr) : Sp := fun vs H Q E => ∃ (rd dx lw : Addr) (ws : List Str) (a s t p : Nat) (x : Str), vs = [.ref rd, .str x] ∧ RS C H rd dx lw ws a s t p ∧ a ≤ ws.length ∧
  (ws[a]? = some x → ∀ H', RX rd H H' → RS C H' rd dx lw ws (a + 1) s t p → (∀ Ts, TBs Ts H → TBs Ts H') → Q .non H') ∧ (ws[a]? ≠ some x → ∀ H', Ex H H' → Er CB (.int (a : Nat)) H' E)
theorem ok_Reader_expect (T : Txt K mg) : FnOk P w K mg base (L2.CX P w) 5 T.d_Reader_expect.a T.d_Reader_expect.fd ["self", "word"] (spExG T.K_Reader.C T.E_BadText.C) := by
  refine T.d_Reader_expect.F.okX sc_Reader_expect (fun vs H Q E h => ?_) (fun cdv A outer s H vs Q E hr h => ?_)
  · obtain ⟨rd, dx, lw, ws, a, s, t, p, x, rfl, _⟩ := h
    rfl
  · obtain ⟨rd, dx, lw, ws, a, s', t, p, x, rfl, hR, al, k1, k0⟩ := h
    refine ⟨_, (pss_cons (ps_if (pt_cmpR op_ne (pe_meth0 (pv 0) T.K_Reader.cl T.d_Reader_peek.me (ok_Reader_peek T) (hr.mono (by first | decide | omega)) T.d_Reader_peek.b .nil (passes_call (takes_of rfl rfl rfl rfl) fun _ _ _ _ h => h)) (pv 1) (nomark _)) (pss_one (ps_raise rfl (takes_of rfl rfl rfl rfl) (pmk_oex T.E_BadText.x.oex T.E_BadText.x.i T.E_BadText.x.t (ok_i_BadText T) (hr.mono (by first | decide | omega)) T.E_BadText.b .nil pass0 (by rfl) T.E_BadText.g (pa_cons (pe_fld (pv 0) rfl) pa_nil)))) pss_nil)
      (pss_one (ps_fldaug (pv 0) pe_int in_add))), ?_⟩
    refine n_seq ?_
    refine ⟨_, rfl, rd, dx, _, rfl, hR.i, rd_peek, rd, dx, lw, ws, a, s', t, p, rfl, hR, al, fun y hy H1 e1 => ?_, fun hn H1 e1 => ?_⟩
    · refine ⟨_, rfl, rfl, _, rfl, ?_⟩
      have hR1 := hR.ex e1
      by_cases c : y = x
      · subst c
        refine ifF' (by rw [decide_eq_true rfl]; rfl) ?_
        refine n_next ?_
        exact s_augAt (T := T) rfl hR1 ev_c fun H2 r2 hR2 t2 => k1 hy H2 ((Ex.rx e1).trans r2) hR2 fun Ts y => t2 Ts (y.ex e1)
      · refine ifT' (by rw [decide_eq_false (fun z => c (by injection z))]; rfl) ?_
        exact rd_raiseE (ev_at (T := T) rfl hR1) (k0 (by rw [hy]; exact fun z => c (by injection z)) H1 e1)
    · exact k0 (by rw [hn]; exact nofun) H1 e1
def spCtG (C CB : Addr) : Sp := fun vs H Q E => ∃ (rd dx lw : Addr) (ws : List Str) (a s t p n : Nat), vs = [.ref rd, .int (n : Nat)] ∧ RS C H rd dx lw ws a s t p ∧
  (t + n ≤ 48 ∧ p + n ≤ 96 → ∀ H', RX rd H H' → RS C H' rd dx lw ws a s (t + n) (p + n) → (∀ Ts, TBs Ts H → TBs Ts H') → Q .non H') ∧ (¬ (t + n ≤ 48 ∧ p + n ≤ 96) → ∀ H', RX rd H H' → (∀ Ts, TBs Ts H → TBs Ts H') → Er CB (.int (a : Nat)) H' E)
theorem ok_Reader_count_parts (T : Txt K mg) : FnOk P w K mg base (L2.CX P w) 4 T.d_Reader_count_parts.a T.d_Reader_count_parts.fd ["self", "more"] (spCtG T.K_Reader.C T.E_BadText.C) := by
  refine T.d_Reader_count_parts.F.okX sc_Reader_count_parts (fun vs H Q E h => ?_) (fun cdv A outer s H vs Q E hr h => ?_)
  · obtain ⟨rd, dx, lw, ws, a, s, t, p, n, rfl, _⟩ := h
    rfl
  · obtain ⟨rd, dx, lw, ws, a, s', t, p, n, rfl, hR, k1, k0⟩ := h
    refine ⟨_, (pss_cons (ps_fldaug (pv 0) (pv 1) in_add)
      (pss_cons (ps_fldaug (pv 0) (pv 1) in_add)
      (pss_one (ps_if (PW.pt (pw_or (pt_cmpR op_gt (pe_fld (pv 0) rfl) (pe_glob (v := .int 48) rfl T.c_MOST_PARTS ⟨_, rfl⟩) (nomark _)) (pw_or1 (pt_cmpR op_gt (pe_fld (pv 0) rfl) (pe_glob (v := .int 96) rfl T.c_MOST_MIX_PARTS ⟨_, rfl⟩) (nomark _))))) (pss_one (ps_raise rfl (takes_of rfl rfl rfl rfl) (pmk_oex T.E_BadText.x.oex T.E_BadText.x.i T.E_BadText.x.t (ok_i_BadText T) (hr.mono (by first | decide | omega)) T.E_BadText.b .nil pass0 (by rfl) T.E_BadText.g (pa_cons (pe_fld (pv 0) rfl) pa_nil)))) pss_nil)))), ?_⟩
    refine n_seq ?_
    refine s_augTp (T := T) rfl hR (ev_var rfl) fun H1 r1 hR1 t1 => ?_
    refine n_seq ?_
    refine s_augAp (T := T) rfl hR1 (ev_var rfl) fun H2 r2 hR2 t2 => ?_
    dsimp only
    refine s_if (b := !decide (t + n ≤ 48 ∧ p + n ≤ 96)) (et_is (et_or (a := decide ((48 : Int) < ((t + n : Nat) : Int))) (b := decide ((96 : Int) < ((p + n : Nat) : Int))) (et_test (ev_op (ev_tp (T := T) (i := 0) (σ := [some (.ref rd), some (.int (n : Nat))]) rfl hR2) (ev_c (v := .int 48)) (rv_I0 (g := fun i j => .bl (decide (j < i)))))) fun _ => et_test (ev_op (ev_ap (T := T) (i := 0) (σ := [some (.ref rd), some (.int (n : Nat))]) rfl hR2) (ev_c (v := .int 96)) (rv_I0 (g := fun i j => .bl (decide (j < i)))))) ?_) (fun z H3 e3 => ?_) fun z H3 e3 => ?_
    · rw [Bool.eq_iff_iff]
      simp only [Bool.or_eq_true, decide_eq_true_iff, Bool.not_eq_true', decide_eq_false_iff_not]
      omega
    · exact rd_raiseE (ev_at (T := T) rfl (hR2.ex e3)) (k0 (of_decide_eq_false (by rw [Bool.not_eq_true'] at z; exact z)) H3 (r1.trans (r2.trans (Ex.rx e3))) fun Ts y => (t2 Ts (t1 Ts y)).ex e3)
    · exact k1 (of_decide_eq_true (by rw [Bool.not_eq_false'] at z; exact z)) H3 (r1.trans (r2.trans (Ex.rx e3))) (hR2.ex e3) fun Ts y => (t2 Ts (t1 Ts y)).ex e3
end
/-! ### numbers read, either way; the end; the reader made -/
section
variable {P : Program} {w : World} {K : PySem.W.Frag} {mg : Str → Option Value} {base : Heap}
theorem s_dropM {C : Addr} {m : Str} {sp : Sp} {E : XK} {ta te : TE} {D : Ends} {σ : L2.St} {H : Hp} (h : ta σ H fun x H1 => ∃ a dx fs, x = .ref a ∧ H1 a = some (.ins C dx fs) ∧ fs.lookup m = none ∧ te σ H1 fun y H2 => sp [x, y] H2 (fun _ H3 => D.nx σ H3) E) : tDrop (tMeth C m sp [] E ta (tCons te tNil)) D σ H := h
def WsOk (ws : List Str) : Prop := ws.length ≤ 1000 ∧ ∀ x ∈ ws, x.length ≤ 1000
/-- a word that is a number stands there -/
def numAt (ws : List Str) (a : Nat) : Bool := match ws[a]? with
  | some x => numB x
  | none => false
def posAt (ws : List Str) (a : Nat) : Bool := match ws[a]? with
  | some x => posW x
  | none => false
def spPyG (Ts : TbS) (C CB : Addr) : Sp := fun vs H Q E => ∃ (rd dx lw : Addr) (ws : List Str) (a s t p : Nat), vs = [.ref rd] ∧ RS C H rd dx lw ws a s t p ∧ a ≤ ws.length ∧ WsOk ws ∧ TBs Ts H ∧
  (numAt ws a = true → ∀ z H', RX rd H H' → RS C H' rd dx lw ws (a + 1) s t p → TBs Ts H' → Q z H') ∧ (numAt ws a = false → ∀ H', RX rd H H' → TBs Ts H' → Er CB (.int (a : Nat)) H' E)
theorem ok_Reader_read_pay (T : Txt K mg) (tb_are_figures : GxR.TabB base mg T.c_are_figures T.P_are_figures) : FnOk P w K mg base (L2.CX P w) 5 T.d_Reader_read_pay.a T.d_Reader_read_pay.fd ["self"] (spPyG (tts T) T.K_Reader.C T.E_BadText.C) := by
  refine T.d_Reader_read_pay.F.okX sc_Reader_read_pay (fun vs H Q E h => ?_) (fun cdv A outer s H vs Q E hr h => ?_)
  · obtain ⟨rd, dx, lw, ws, a, s, t, p, rfl, _⟩ := h
    rfl
  · obtain ⟨rd, dx, lw, ws, a, s', t, p, rfl, hR, al, hw, ht, k1, k0⟩ := h
    refine ⟨_, (pss_cons (ps_set (i := 1) sc_Reader_read_pay.nd rfl (Or.inl rfl) (pe_call (ok_parse_fraction T tb_are_figures) (hr.mono (by decide)) (by rfl) T.d_parse_fraction.g T.d_parse_fraction.F.kp T.d_parse_fraction.b .nil pass0 (pa_cons (pe_meth0 (pv 0) T.K_Reader.cl T.d_Reader_peek.me (ok_Reader_peek T) (hr.mono (by first | decide | omega)) T.d_Reader_peek.b .nil (passes_call (takes_of rfl rfl rfl rfl) fun _ _ _ _ h => h)) pa_nil)))
      (pss_cons (ps_if (pt_cmpR op_isN (pv 1) pe_non (nomark _)) (pss_one (ps_raise rfl (takes_of rfl rfl rfl rfl) (pmk_oex T.E_BadText.x.oex T.E_BadText.x.i T.E_BadText.x.t (ok_i_BadText T) (hr.mono (by first | decide | omega)) T.E_BadText.b .nil pass0 (by rfl) T.E_BadText.g (pa_cons (pe_fld (pv 0) rfl) pa_nil)))) pss_nil)
      (pss_cons (ps_fldaug (pv 0) pe_int in_add)
      (pss_one (ps_ret (pv 1)))))), ?_⟩
    refine n_seq ?_
    refine ⟨_, rfl, rd, dx, _, rfl, hR.i, rd_peek, rd, dx, lw, ws, a, s', t, p, rfl, hR, al, fun x hx H1 e1 => ?_, fun hn H1 e1 => ?_⟩
    · have hR1 := hR.ex e1
      have na : numAt ws a = numB x := by
        unfold numAt
        rw [hx]
      rw [na] at k1 k0
      refine ⟨x, rfl, hw.2 x (List.mem_of_getElem? hx), ht.ex e1, fun nb H2 e2 t2 => ?_, fun nb c n m H2 e2 t2 hS pw => ?_⟩
      · dsimp only
        refine n_seq ?_
        refine ⟨_, rfl, rfl, _, rfl, ifT' rfl ?_⟩
        exact rd_raiseE (ev_at (T := T) rfl (hR1.xt e2)) (k0 nb H2 ((Ex.rx e1).trans (ExT.rx e2)) t2)
      · dsimp only
        refine n_seq ?_
        refine ⟨_, rfl, rfl, _, rfl, ifF' rfl ?_⟩
        refine n_next ?_
        dsimp only
        refine n_seq ?_
        refine s_augAt (T := T) rfl (hR1.xt e2) ev_c fun H3 r3 hR3 t3 => ?_
        exact ⟨_, rfl, k1 nb _ H3 ((Ex.rx e1).trans ((ExT.rx e2).trans r3)) hR3 (t3 _ t2)⟩
    · exact k0 (by unfold numAt; rw [hn]) H1 (Ex.rx e1) (ht.ex e1) 
def spWtG (Ts : TbS) (C CB : Addr) : Sp := fun vs H Q E => ∃ (rd dx lw : Addr) (ws : List Str) (a s t p : Nat), vs = [.ref rd] ∧ RS C H rd dx lw ws a s t p ∧ a ≤ ws.length ∧ WsOk ws ∧ TBs Ts H ∧
  ((posAt ws a = true ∧ t + 1 ≤ 48 ∧ p + 1 ≤ 96) → ∀ z H', RX rd H H' → RS C H' rd dx lw ws (a + 1) s (t + 1) (p + 1) → TBs Ts H' → Q z H') ∧ (¬ (posAt ws a = true ∧ t + 1 ≤ 48 ∧ p + 1 ≤ 96) → ∀ H', RX rd H H' → TBs Ts H' → Er CB (.int (a : Nat)) H' E)
theorem ok_Reader_read_weight (T : Txt K mg) (tb_are_figures : GxR.TabB base mg T.c_are_figures T.P_are_figures) : FnOk P w K mg base (L2.CX P w) 5 T.d_Reader_read_weight.a T.d_Reader_read_weight.fd ["self"] (spWtG (tts T) T.K_Reader.C T.E_BadText.C) := by
  refine T.d_Reader_read_weight.F.okX sc_Reader_read_weight (fun vs H Q E h => ?_) (fun cdv A outer s H vs Q E hr h => ?_)
  · obtain ⟨rd, dx, lw, ws, a, s, t, p, rfl, _⟩ := h
    rfl
  · obtain ⟨rd, dx, lw, ws, a, s', t, p, rfl, hR, al, hw, ht, k1, k0⟩ := h
    refine ⟨_, (pss_cons (ps_set (i := 1) sc_Reader_read_weight.nd rfl (Or.inl rfl) (pe_call (ok_parse_fraction T tb_are_figures) (hr.mono (by decide)) (by rfl) T.d_parse_fraction.g T.d_parse_fraction.F.kp T.d_parse_fraction.b .nil pass0 (pa_cons (pe_meth0 (pv 0) T.K_Reader.cl T.d_Reader_peek.me (ok_Reader_peek T) (hr.mono (by first | decide | omega)) T.d_Reader_peek.b .nil (passes_call (takes_of rfl rfl rfl rfl) fun _ _ _ _ h => h)) pa_nil)))
      (pss_cons (ps_if (PW.pt (pw_or (pt_cmpR op_isN (pv 1) pe_non (nomark _)) (pw_or1 (pt_cmpR op_le (pe_ix ix_tup (pv 1) pe_int (fun _ _ => rfl)) pe_int (nomark _))))) (pss_one (ps_raise rfl (takes_of rfl rfl rfl rfl) (pmk_oex T.E_BadText.x.oex T.E_BadText.x.i T.E_BadText.x.t (ok_i_BadText T) (hr.mono (by first | decide | omega)) T.E_BadText.b .nil pass0 (by rfl) T.E_BadText.g (pa_cons (pe_fld (pv 0) rfl) pa_nil)))) pss_nil)
      (pss_cons (ps_expr (pe_meth (pv 0) T.K_Reader.cl T.d_Reader_count_parts.me (ok_Reader_count_parts T) (hr.mono (by first | decide | omega)) T.d_Reader_count_parts.b .nil (passes_call (takes_of rfl rfl rfl rfl) fun _ _ _ _ h => h) (pa_cons pe_int pa_nil)))
      (pss_cons (ps_fldaug (pv 0) pe_int in_add)
      (pss_one (ps_ret (pv 1))))))), ?_⟩
    refine n_seq ?_
    refine ⟨_, rfl, rd, dx, _, rfl, hR.i, rd_peek, rd, dx, lw, ws, a, s', t, p, rfl, hR, al, fun x hx H1 e1 => ?_, fun hn H1 e1 => ?_⟩
    · have hR1 := hR.ex e1
      have na : posAt ws a = posW x := by
        unfold posAt
        rw [hx]
      rw [na] at k1 k0
      refine ⟨x, rfl, hw.2 x (List.mem_of_getElem? hx), ht.ex e1, fun nb H2 e2 t2 => ?_, fun nb c n m H2 e2 t2 hS pw => ?_⟩
      · dsimp only
        refine n_seq ?_
        refine ⟨_, rfl, rfl, _, rfl, ifT' rfl ?_⟩
        exact rd_raiseE (ev_at (T := T) rfl (hR1.xt e2)) (k0 (fun z => by
          have := z.1
          unfold posW at this
          rw [nb] at this
          cases this) H2 ((Ex.rx e1).trans (ExT.rx e2)) t2)
      · have hR2 := hR1.xt e2
        dsimp only
        refine n_seq ?_
        refine ⟨_, rfl, rfl, _, rfl, ifF' rfl ?_⟩
        refine ⟨_, rfl, c, _, 0, _, rfl, rfl, hS, rfl, ?_⟩
        refine ⟨_, _, rfl, rfl, _, rfl, ?_⟩
        by_cases n0 : 0 < n
        · refine ifF' (decide_eq_false (by omega)) ?_
          refine n_next ?_
          dsimp only
          refine n_seq ?_
          refine s_dropM ?_
          refine ⟨_, rfl, rd, dx, _, rfl, hR2.i, rd_count, ?_⟩
          have pw' : posW x = true := by rw [← pw]; exact decide_eq_true n0
          refine ⟨rd, dx, lw, ws, a, s', t, p, 1, rfl, hR2, fun hc H3 r3 hR3 t3 => ?_, fun hc H3 r3 t3 => ?_⟩
          · refine n_seq ?_
            refine s_augAt (T := T) rfl hR3 ev_c fun H4 r4 hR4 t4 => ?_
            exact ⟨_, rfl, k1 ⟨pw', hc⟩ _ H4 ((Ex.rx e1).trans ((ExT.rx e2).trans (r3.trans r4))) hR4 (t4 _ (t3 _ t2))⟩
          · exact k0 (fun z => hc z.2) H3 ((Ex.rx e1).trans ((ExT.rx e2).trans r3)) (t3 _ t2)
        · refine ifT' (decide_eq_true (by omega)) ?_
          refine rd_raiseE (ev_at (T := T) rfl hR2) (k0 (fun z => ?_) H2 ((Ex.rx e1).trans (ExT.rx e2)) t2)
          have := pw.trans z.1
          exact n0 (of_decide_eq_true this)
    · exact k0 (fun z => by
        have := z.1
        unfold posAt at this
        rw [hn] at this
        cases this) H1 (Ex.rx e1) (ht.ex e1)
def spFnG (C CB : Addr) : Sp := fun vs H Q E => ∃ (rd dx lw : Addr) (ws : List Str) (a s t p : Nat), vs = [.ref rd] ∧ RS C H rd dx lw ws a s t p ∧ (ws.length ≤ a → ∀ H', Ex H H' → Q .non H') ∧ (a < ws.length → ∀ H', Ex H H' → Er CB (.int (a : Nat)) H' E)
theorem ok_Reader_finish (T : Txt K mg) : FnOk P w K mg base (L2.CX P w) 4 T.d_Reader_finish.a T.d_Reader_finish.fd ["self"] (spFnG T.K_Reader.C T.E_BadText.C) := by
  refine T.d_Reader_finish.F.okX sc_Reader_finish (fun vs H Q E h => ?_) (fun cdv A outer s H vs Q E hr h => ?_)
  · obtain ⟨rd, dx, lw, ws, a, s, t, p, rfl, _⟩ := h
    rfl
  · obtain ⟨rd, dx, lw, ws, a, s', t, p, rfl, hR, k1, k0⟩ := h
    refine ⟨_, (pss_one (ps_if (pt_cmpR op_lt (pe_fld (pv 0) rfl) (pe_callB call_len_seq (by rfl) T.n_len (by decide +kernel) (pa_cons (pe_fld (pv 0) rfl) pa_nil)) (nomark _)) (pss_one (ps_raise rfl (takes_of rfl rfl rfl rfl) (pmk_oex T.E_BadText.x.oex T.E_BadText.x.i T.E_BadText.x.t (ok_i_BadText T) (hr.mono (by first | decide | omega)) T.E_BadText.b .nil pass0 (by rfl) T.E_BadText.g (pa_cons (pe_fld (pv 0) rfl) pa_nil)))) pss_nil)), ?_⟩
    refine s_if (et_test (ev_op (ev_at (T := T) rfl hR) (ev_lenW (T := T) rfl hR) rv_I0)) (fun z H1 e1 => ?_) fun z H1 e1 => ?_
    · have z' := of_decide_eq_true z
      exact rd_raiseE (ev_at (T := T) rfl (hR.ex e1)) (k0 (by omega) H1 e1)
    · have z' := of_decide_eq_false z
      exact k1 (by omega) H1 e1
def isStrD : PyData → Bool
  | .str _ => true
  | _ => false
def spInG (K : PySem.W.Frag) (C CB : Addr) : Sp := fun vs H Q E => ∃ (rd dx p : Addr) (v : V) (d : PyData), vs = [.ref rd, v] ∧ H rd = some (.ins C dx []) ∧ Dq K p H v d ∧
  (∀ x, d = .str x → x.length ≤ 1000000 ∧ ∀ lw H', RX rd H H' → RS C H' rd dx lw (Txt.split x " ") 0 0 0 0 → (∀ Ts, TBs Ts H → TBs Ts H') → Q .non H') ∧ (isStrD d = false → ∀ H', Ex H H' → Er CB (.int 0) H' E)
theorem ok_Reader___init__ (T : Txt K mg) : FnOk P w K mg base (L2.CX P w) 4 T.d_Reader___init__.a T.d_Reader___init__.fd ["self", "text"] (spInG K T.K_Reader.C T.E_BadText.C) := by
  refine T.d_Reader___init__.F.okX sc_Reader___init__ (fun vs H Q E h => ?_) (fun cdv A outer s H vs Q E hr h => ?_)
  · obtain ⟨rd, dx, p, v, d, rfl, _⟩ := h
    rfl
  · obtain ⟨rd, dx, p, v, d, rfl, hi, hd, k1, k0⟩ := h
    refine ⟨_, (pss_cons (ps_if (pt_not (pt_val (pe_callB call_isi (by rfl) T.n_isinstance (by decide +kernel) (pa_cons (pv 1) (pa_cons (pe_bltn (v := .ty "str") (by rfl) T.n_str (by decide +kernel) rfl) pa_nil))))) (pss_one (ps_raise rfl (takes_of rfl rfl rfl rfl) (pmk_oex T.E_BadText.x.oex T.E_BadText.x.i T.E_BadText.x.t (ok_i_BadText T) (hr.mono (by first | decide | omega)) T.E_BadText.b .nil pass0 (by rfl) T.E_BadText.g (pa_cons pe_int pa_nil)))) pss_nil)
      (pss_cons (ps_fld (pv 0) (pe_split (pv 1) pe_str) (by rfl))
      (pss_cons (ps_fld (pv 0) pe_int (by rfl))
      (pss_cons (ps_fld (pv 0) pe_int (by rfl))
      (pss_cons (ps_fld (pv 0) pe_int (by rfl))
      (pss_one (ps_fld (pv 0) pe_int (by rfl)))))))), ?_⟩
    refine n_seq ?_
    refine s_if (et_not (et_B (ev_isi (K := K) (p := p) (i := 1) (T := "str") rfl hd (b := isStrD d) (by cases d <;> rfl)))) (fun z H1 e1 => ?_) fun z H1 e1 => ?_
    · exact rd_raiseE ev_c (k0 (by simpa using z) H1 e1)
    have zs : isStrD d = true := by simpa using z
    obtain ⟨x, rfl⟩ : ∃ x, d = .str x := by
      cases d <;> first | exact ⟨_, rfl⟩ | cases zs
    obtain ⟨xl, kk⟩ := k1 x rfl
    obtain rfl : v = .str x := by
      cases hd
      rfl
    refine n_next ?_
    dsimp only
    refine n_seq ?_
    refine ⟨_, rfl, ⟨_, rfl⟩, _, _, rfl, rfl, by decide +kernel, ?_, fun lw nlw => ?_⟩
    · show _ ≤ 16777216
      omega
    generalize Txt.split x " " = ws at *
    have xw := Ex.new (o := .lst (ws.map V.str)) nlw
    have hi1 := e1 _ _ hi
    have nd : lw ≠ rd := (ne_of_none hi1 nlw).symm
    have hw1 : (upd H1 lw (.lst (ws.map V.str))) lw = some (.lst (ws.map V.str)) := upd_same
    have hi2 := xw _ _ hi1
    generalize upd H1 lw (.lst (ws.map V.str)) = H2 at xw hw1 hi2
    have put : ∀ {G : Hp} {fs gs : List (Str × V)}, G rd = some (.ins T.K_Reader.C dx fs) → ∀ Ts, TBs Ts G → TBs Ts (upd G rd (.ins T.K_Reader.C dx gs)) := fun {G fs gs} hG Ts k => k.keep (p := rd) (fun ps => by rw [hG]; exact (nofun)) (fun f => by rw [hG]; exact (nofun)) fun b u n z => by
      rw [upd_ne n]
      exact z
    refine ⟨_, rfl, rd, T.K_Reader.C, dx, [], rfl, hi2, T.K_Reader.cl, T.f_words, by show 0 < 1000; decide, ?_⟩
    refine n_seq ?_
    refine ⟨_, rfl, rd, T.K_Reader.C, dx, _, rfl, upd_same, T.K_Reader.cl, T.f_at, by show 1 < 1000; decide, ?_⟩
    refine n_seq ?_
    refine ⟨_, rfl, rd, T.K_Reader.C, dx, _, rfl, upd_same, T.K_Reader.cl, T.f_step_count, by show 2 < 1000; decide, ?_⟩
    refine n_seq ?_
    refine ⟨_, rfl, rd, T.K_Reader.C, dx, _, rfl, upd_same, T.K_Reader.cl, T.f_term_parts, by show 3 < 1000; decide, ?_⟩
    refine ⟨_, rfl, rd, T.K_Reader.C, dx, _, rfl, upd_same, T.K_Reader.cl, T.f_all_parts, by show 4 < 1000; decide, ?_⟩
    have ef : putF ("all_parts" : Str) (.int 0) (putF ("term_parts" : Str) (.int 0) (putF ("step_count" : Str) (.int 0) (putF ("at" : Str) (.int 0) (putF ("words" : Str) (.ref lw) [])))) = rdF lw 0 0 0 0 := by kernel_rfl
    refine kk lw _ (((Ex.rx e1).trans (Ex.rx xw)).trans (RX.refl.upd.upd.upd.upd.upd)) ⟨upd_same.trans (congrArg (fun l => some (HO.ins T.K_Reader.C dx l)) ef), ?_⟩ fun Ts k => ?_
    · rw [upd_ne nd, upd_ne nd, upd_ne nd, upd_ne nd, upd_ne nd]
      exact hw1
    · exact put upd_same _ (put upd_same _ (put upd_same _ (put upd_same _ (put hi2 _ ((k.ex e1).ex xw)))))
end
/-! ### reading: the model -/
inductive Rd
  | bad (i : Nat)
  | ok (a s t p : Nat)
def rdC (ws : List Str) (a s t p : Nat) : Rd := if ws[a]? = some wC then .ok (a + 1) s t p else .bad a
def rdO (f : Nat → Nat → Nat → Nat → Rd) (ws : List Str) : Nat → Nat → Nat → Nat → Nat → Rd
  | 0, a, s, t, p => rdC ws a s t p
  | n + 1, a, s, t, p => if ws[a]? = some wC then .ok (a + 1) s t p else
    if posAt ws a = true ∧ t + 1 ≤ 48 ∧ p + 1 ≤ 96 then
      match f (a + 1) s (t + 1) (p + 1) with
      | .bad i => .bad i
      | .ok a' s' t' p' => rdO f ws n a' s' t' p'
    else .bad a
def rdM3 (f : Nat → Nat → Nat → Nat → Rd) (ws : List Str) (a s t p : Nat) : Rd :=
  if ws[a]? = some wC then .ok (a + 1) s t p else
    if t + 1 ≤ 48 ∧ p + 1 ≤ 96 then
      match f a s (t + 1) (p + 1) with
      | .bad i => .bad i
      | .ok a' s' t' p' => rdC ws a' s' t' p'
    else .bad a
def rdM (f : Nat → Nat → Nat → Nat → Rd) (ws : List Str) (a s t p : Nat) : Rd :=
  match f a s t p with
  | .bad i => .bad i
  | .ok a1 s1 t1 p1 => match f a1 s1 t1 p1 with
    | .bad i => .bad i
    | .ok a2 s2 t2 p2 => rdM3 f ws a2 s2 t2 p2
def rdT : Nat → List Str → Nat → Nat → Nat → Nat → Rd
  | 0, _, a, _, _, _ => .bad a
  | k + 1, ws, a, s, t, p =>
    if ws[a]? = some wStep then
      if s + 1 ≤ 16 then if numAt ws (a + 1) = true then if ws[a + 2]? = some wO then rdO (rdT k ws) ws 3 (a + 3) (s + 1) t p else .bad (a + 2) else .bad (a + 1) else .bad a
    else if ws[a]? = some wAll then
      if t + 2 ≤ 48 ∧ p + 2 ≤ 96 then if ws[a + 1]? = some wO then rdM (rdT k ws) ws (a + 2) s (t + 2) (p + 2) else .bad (a + 1) else .bad a
    else if ws[a]? = some wEnd then .ok (a + 1) s t p else .bad a
/-- what is read stands within the words and the bounds -/
def RdOk (ws : List Str) (a s t p : Nat) (r : Rd) : Prop := ∀ a' s' t' p', r = .ok a' s' t' p' → a ≤ a' ∧ a' ≤ ws.length ∧ s' ≤ 16 ∧ t ≤ t' ∧ t' ≤ 48 ∧ p' ≤ 96
def FOk (ws : List Str) (f : Nat → Nat → Nat → Nat → Rd) : Prop := ∀ a s t p, a ≤ ws.length → s ≤ 16 → t ≤ 48 → p ≤ 96 → RdOk ws a s t p (f a s t p)
theorem get_lt {ws : List Str} {a : Nat} {x : Str} (h : ws[a]? = some x) : a + 1 ≤ ws.length := (List.getElem?_eq_some_iff.mp h).1
theorem rdC_ok {ws : List Str} {a s t p : Nat} (h2 : s ≤ 16) (h3 : t ≤ 48) (h4 : p ≤ 96) : RdOk ws a s t p (rdC ws a s t p) := fun a' s' t' p' e => by
  unfold rdC at e
  by_cases c : ws[a]? = some wC
  · rw [if_pos c] at e
    cases e
    have := get_lt c
    omega
  · rw [if_neg c] at e
    cases e
theorem posAt_lt {ws : List Str} {a : Nat} (h : posAt ws a = true) : a + 1 ≤ ws.length := by
  unfold posAt at h
  cases hx : ws[a]? with
  | none => rw [hx] at h; cases h
  | some x => exact get_lt hx
theorem rdO_ok {ws : List Str} {f : Nat → Nat → Nat → Nat → Rd} (hf : FOk ws f) : ∀ {n a s t p : Nat}, s ≤ 16 → t ≤ 48 → p ≤ 96 → RdOk ws a s t p (rdO f ws n a s t p)
  | 0, a, s, t, p, h2, h3, h4 => rdC_ok h2 h3 h4
  | n + 1, a, s, t, p, h2, h3, h4 => fun a' s' t' p' e => by
    unfold rdO at e
    by_cases c : ws[a]? = some wC
    · rw [if_pos c] at e
      cases e
      have := get_lt c
      omega
    rw [if_neg c] at e
    by_cases c2 : posAt ws a = true ∧ t + 1 ≤ 48 ∧ p + 1 ≤ 96
    · rw [if_pos c2] at e
      have hl := posAt_lt c2.1
      have g := hf (a + 1) s (t + 1) (p + 1) hl h2 c2.2.1 c2.2.2
      cases hr : f (a + 1) s (t + 1) (p + 1) with
      | bad i => rw [hr] at e; cases e
      | ok a1 s1 t1 p1 =>
        rw [hr] at e
        have g1 := g _ _ _ _ hr
        have g2 := rdO_ok hf (n := n) (a := a1) g1.2.2.1 g1.2.2.2.2.1 g1.2.2.2.2.2 _ _ _ _ e
        omega
    · rw [if_neg c2] at e
      cases e
theorem rdM3_ok {ws : List Str} {f : Nat → Nat → Nat → Nat → Rd} (hf : FOk ws f) {a s t p : Nat} (h1 : a ≤ ws.length) (h2 : s ≤ 16) (h3 : t ≤ 48) (h4 : p ≤ 96) : RdOk ws a s t p (rdM3 f ws a s t p) := fun a' s' t' p' e => by
  unfold rdM3 at e
  by_cases c : ws[a]? = some wC
  · rw [if_pos c] at e
    cases e
    have := get_lt c
    omega
  rw [if_neg c] at e
  by_cases c2 : t + 1 ≤ 48 ∧ p + 1 ≤ 96
  · rw [if_pos c2] at e
    have g := hf a s (t + 1) (p + 1) h1 h2 c2.1 c2.2
    cases hr : f a s (t + 1) (p + 1) with
    | bad i => rw [hr] at e; cases e
    | ok a1 s1 t1 p1 =>
      rw [hr] at e
      have g1 := g _ _ _ _ hr
      have g2 := rdC_ok (ws := ws) (a := a1) g1.2.2.1 g1.2.2.2.2.1 g1.2.2.2.2.2 _ _ _ _ e
      omega
  · rw [if_neg c2] at e
    cases e
theorem rdM_ok {ws : List Str} {f : Nat → Nat → Nat → Nat → Rd} (hf : FOk ws f) {a s t p : Nat} (h1 : a ≤ ws.length) (h2 : s ≤ 16) (h3 : t ≤ 48) (h4 : p ≤ 96) : RdOk ws a s t p (rdM f ws a s t p) := fun a' s' t' p' e => by
  unfold rdM at e
  cases hr : f a s t p with
  | bad i => rw [hr] at e; cases e
  | ok a1 s1 t1 p1 =>
    rw [hr] at e
    have g1 := hf a s t p h1 h2 h3 h4 _ _ _ _ hr
    dsimp only at e
    cases hr2 : f a1 s1 t1 p1 with
    | bad i => rw [hr2] at e; cases e
    | ok a2 s2 t2 p2 =>
      rw [hr2] at e
      have g2 := hf a1 s1 t1 p1 g1.2.1 g1.2.2.1 g1.2.2.2.2.1 g1.2.2.2.2.2 _ _ _ _ hr2
      have g3 := rdM3_ok hf g2.2.1 g2.2.2.1 g2.2.2.2.2.1 g2.2.2.2.2.2 _ _ _ _ e
      omega
theorem rdT_ok (ws : List Str) : ∀ k, FOk ws (rdT k ws)
  | 0, a, s, t, p, _, _, _, _ => fun a' s' t' p' e => by
    unfold rdT at e
    cases e
  | k + 1, a, s, t, p, h1, h2, h3, h4 => fun a' s' t' p' e => by
    have ih := rdT_ok ws k
    unfold rdT at e
    by_cases c1 : ws[a]? = some wStep
    · rw [if_pos c1] at e
      by_cases d1 : s + 1 ≤ 16
      · rw [if_pos d1] at e
        by_cases d2 : numAt ws (a + 1) = true
        · rw [if_pos d2] at e
          by_cases d3 : ws[a + 2]? = some wO
          · rw [if_pos d3] at e
            have g := rdO_ok ih (n := 3) (a := a + 3) d1 h3 h4 _ _ _ _ e
            omega
          · rw [if_neg d3] at e
            cases e
        · rw [if_neg d2] at e
          cases e
      · rw [if_neg d1] at e
        cases e
    rw [if_neg c1] at e
    by_cases c2 : ws[a]? = some wAll
    · rw [if_pos c2] at e
      by_cases d1 : t + 2 ≤ 48 ∧ p + 2 ≤ 96
      · rw [if_pos d1] at e
        by_cases d3 : ws[a + 1]? = some wO
        · rw [if_pos d3] at e
          have g := rdM_ok ih (a := a + 2) (get_lt d3) h2 d1.1 d1.2 _ _ _ _ e
          omega
        · rw [if_neg d3] at e
          cases e
      · rw [if_neg d1] at e
        cases e
    rw [if_neg c2] at e
    by_cases c3 : ws[a]? = some wEnd
    · rw [if_pos c3] at e
      cases e
      have := get_lt c3
      omega
    · rw [if_neg c3] at e
      cases e
/-! ### steps read, either way -/
section
variable {K : PySem.W.Frag} {rd lo : Addr} {H H1 H' : Hp} {C dx lw : Addr} {ws : List Str} {a s t p : Nat}
theorem RX.mut {o : HO} (x : RX rd H H1) (n : H lo = none) : RX rd H (L2.upd H1 lo o) := fun b u nb z h => by
  rw [upd_ne (ne_of_none h n)]
  exact x b u nb z h
theorem RS.keepL {o : HO} (h : RS C H rd dx lw ws a s t p) (n1 : lo ≠ rd) (n2 : lo ≠ lw) : RS C (L2.upd H lo o) rd dx lw ws a s t p := ⟨by rw [upd_ne n1.symm]; exact h.i, by rw [upd_ne n2.symm]; exact h.w⟩
theorem s_asgM0 {m : Str} {sp : Sp} {E : XK} {ta : TE} {D : Ends} {i : Nat} {σ : L2.St} (h : ta σ H fun x H1 => ∃ a dx fs, x = .ref a ∧ H1 a = some (.ins C dx fs) ∧ fs.lookup m = none ∧ sp [x] H1 (fun v H2 => D.nx (σ.set i (some v)) H2) E) : tAsg (tMeth C m sp [] E ta tNil) (gName i) D σ H := h
theorem t_and {t u : TT} {σ : L2.St} {Q : Bool → Hp → Prop} (h : t σ H fun c H1 => if c = true then u σ H1 Q else Q false H1) : tAnd t u σ H Q := h
end
abbrev rTupC (K : PySem.W.Frag) : List V → Hp → VK → Prop := fun xs H Q => ∃ p ys, xs = [V.ref p] ∧ ((SqL K H p ys ∧ ∀ l, H l = none → Q (.ref l) (upd H l (.tup ys))) ∨ (SqT K H p ys ∧ Q (.ref p) H))
/-- how a reading ends -/
def RsG (Ts : TbS) (C CB rd dx lw : Addr) (ws : List Str) (H : Hp) (Q : VK) (E : XK) : Rd → Prop
  | .bad i => ∀ H', RX rd H H' → TBs Ts H' → Er CB (.int (i : Nat)) H' E
  | .ok a s t p => ∀ z H', RX rd H H' → RS C H' rd dx lw ws a s t p → TBs Ts H' → Q z H'
theorem RsG.rx {Ts : TbS} {C CB rd dx lw : Addr} {ws : List Str} {H H1 : Hp} {Q : VK} {E : XK} {r : Rd} (h : RsG Ts C CB rd dx lw ws H Q E r) (x : RX rd H H1) : RsG Ts C CB rd dx lw ws H1 Q E r := by
  cases r with
  | bad i => exact fun H' x' t => h H' (x.trans x') t
  | ok a s t p => exact fun z H' x' hR t => h z H' (x.trans x') hR t
def spTmG (Ts : TbS) (C CB : Addr) (k : Nat) : Sp := fun vs H Q E => ∃ (rd dx lw : Addr) (ws : List Str) (a s t p : Nat), vs = [.ref rd] ∧ RS C H rd dx lw ws a s t p ∧ a ≤ ws.length ∧ WsOk ws ∧ s ≤ 16 ∧ t ≤ 48 ∧ p ≤ 96 ∧ 49 ≤ t + k ∧ TBs Ts H ∧ RsG Ts C CB rd dx lw ws H Q E (rdT k ws a s t p)
def spStG (Ts : TbS) (C CB : Addr) (k : Nat) : Sp := fun vs H Q E => ∃ (rd dx lw : Addr) (ws : List Str) (a s t p : Nat), vs = [.ref rd] ∧ RS C H rd dx lw ws a s t p ∧ ws[a]? = some wStep ∧ a ≤ ws.length ∧ WsOk ws ∧ s ≤ 16 ∧ t ≤ 48 ∧ p ≤ 96 ∧ 49 ≤ t + (k + 1) ∧ TBs Ts H ∧ RsG Ts C CB rd dx lw ws H Q E (rdT (k + 1) ws a s t p)
def spAlG (Ts : TbS) (C CB : Addr) (k : Nat) : Sp := fun vs H Q E => ∃ (rd dx lw : Addr) (ws : List Str) (a s t p : Nat), vs = [.ref rd] ∧ RS C H rd dx lw ws a s t p ∧ ws[a]? = some wAll ∧ a ≤ ws.length ∧ WsOk ws ∧ s ≤ 16 ∧ t ≤ 48 ∧ p ≤ 96 ∧ 49 ≤ t + (k + 1) ∧ TBs Ts H ∧ RsG Ts C CB rd dx lw ws H Q E (rdT (k + 1) ws a s t p)
section
variable {P : Program} {w : World} {K : PySem.W.Frag} {mg : Str → Option Value} {base : Heap}
/-- self.expect('..') -/
theorem s_expG {T : Txt K mg} {rd dx lw : Addr} {ws : List Str} {a s t p i : Nat} {x : Str} {H : Hp} {σ : L2.St} {D : Ends} {E : XK} (h0 : σ[i]? = some (some (.ref rd))) (hR : RS T.K_Reader.C H rd dx lw ws a s t p) (al : a ≤ ws.length)
    (k : ws[a]? = some x → ∀ H', RX rd H H' → RS T.K_Reader.C H' rd dx lw ws (a + 1) s t p → (∀ Ts, TBs Ts H → TBs Ts H') → D.nx σ H') (k0 : ws[a]? ≠ some x → ∀ H', Ex H H' → Er T.E_BadText.C (.int (a : Nat)) H' E) : tDrop (tMeth T.K_Reader.C "expect" (spExG T.K_Reader.C T.E_BadText.C) [] E (tVar i) (tCons (tC (.str x)) tNil)) D σ H :=
  s_dropM ⟨_, h0, rd, dx, _, rfl, hR.i, rd_expect, rd, dx, lw, ws, a, s, t, p, x, rfl, hR, al, k, k0⟩
theorem s_cntG {T : Txt K mg} {rd dx lw : Addr} {ws : List Str} {a s t p n i : Nat} {H : Hp} {σ : L2.St} {D : Ends} {E : XK} (h0 : σ[i]? = some (some (.ref rd))) (hR : RS T.K_Reader.C H rd dx lw ws a s t p)
    (k : t + n ≤ 48 ∧ p + n ≤ 96 → ∀ H', RX rd H H' → RS T.K_Reader.C H' rd dx lw ws a s (t + n) (p + n) → (∀ Ts, TBs Ts H → TBs Ts H') → D.nx σ H') (k0 : ¬ (t + n ≤ 48 ∧ p + n ≤ 96) → ∀ H', RX rd H H' → (∀ Ts, TBs Ts H → TBs Ts H') → Er T.E_BadText.C (.int (a : Nat)) H' E) : tDrop (tMeth T.K_Reader.C "count_parts" (spCtG T.K_Reader.C T.E_BadText.C) [] E (tVar i) (tCons (tC (.int (n : Nat))) tNil)) D σ H :=
  s_dropM ⟨_, h0, rd, dx, _, rfl, hR.i, rd_count, rd, dx, lw, ws, a, s, t, p, n, rfl, hR, k, k0⟩
theorem stG_of (T : Txt K mg) (tb_are_figures : GxR.TabB base mg T.c_are_figures T.P_are_figures) (k : Nat) (ok_rt : FnOk P w K mg base (L2.CX P w) (10 + 2 * k) T.d_Reader_read_term.a T.d_Reader_read_term.fd ["self"] (spTmG (tts T) T.K_Reader.C T.E_BadText.C k)) : FnOk P w K mg base (L2.CX P w) (10 + 2 * k + 1) T.d_Reader_read_step.a T.d_Reader_read_step.fd ["self"] (spStG (tts T) T.K_Reader.C T.E_BadText.C k) := by
  refine (T.d_Reader_read_step.F.okX (k := 10 + 2 * k) sc_Reader_read_step (fun vs H Q E h => ?_) fun cdv A outer s H vs Q E hr h => ?_)
  · obtain ⟨rd, dx, lw, ws, a, s, t, p, rfl, _⟩ := h
    rfl
  · obtain ⟨rd, dx, lw, ws, a, s', t, p, rfl, hR, h0, al, hw, s16, t48, p96, tk, ht, kk⟩ := h
    refine ⟨_, (pss_cons (ps_fldaug (pv 0) pe_int in_add)
      (pss_cons (ps_if (pt_cmpR op_gt (pe_fld (pv 0) rfl) (pe_glob (v := .int 16) rfl T.c_MOST_STEPS ⟨_, rfl⟩) (nomark _)) (pss_one (ps_raise rfl (takes_of rfl rfl rfl rfl) (pmk_oex T.E_BadText.x.oex T.E_BadText.x.i T.E_BadText.x.t (ok_i_BadText T) (hr.mono (by first | decide | omega)) T.E_BadText.b .nil pass0 (by rfl) T.E_BadText.g (pa_cons (pe_fld (pv 0) rfl) pa_nil)))) pss_nil)
      (pss_cons (ps_expr (pe_meth (pv 0) T.K_Reader.cl T.d_Reader_expect.me (ok_Reader_expect T) (hr.mono (by first | decide | omega)) T.d_Reader_expect.b .nil (passes_call (takes_of rfl rfl rfl rfl) fun _ _ _ _ h => h) (pa_cons pe_str pa_nil)))
      (pss_cons (ps_set (i := 1) sc_Reader_read_step.nd rfl (Or.inl rfl) (pe_meth0 (pv 0) T.K_Reader.cl T.d_Reader_read_pay.me (ok_Reader_read_pay T tb_are_figures) (hr.mono (by first | decide | omega)) T.d_Reader_read_pay.b .nil (passes_call (takes_of rfl rfl rfl rfl) fun _ _ _ _ h => h)))
      (pss_cons (ps_expr (pe_meth (pv 0) T.K_Reader.cl T.d_Reader_expect.me (ok_Reader_expect T) (hr.mono (by first | decide | omega)) T.d_Reader_expect.b .nil (passes_call (takes_of rfl rfl rfl rfl) fun _ _ _ _ h => h) (pa_cons pe_str pa_nil)))
      (pss_cons (ps_set (i := 2) sc_Reader_read_step.nd rfl (Or.inl rfl) (pe_lst pa_nil))
      (pss_cons (ps_while (passes_of rfl) (PW.pt (pw_and (pt_cmpR op_lt (pe_callB call_len_seq (by rfl) T.n_len (by decide +kernel) (pa_cons (pv 2) pa_nil)) pe_int (nomark _)) (pw_and1 (pt_cmpR op_ne (pe_meth0 (pv 0) T.K_Reader.cl T.d_Reader_peek.me (ok_Reader_peek T) (hr.mono (by first | decide | omega)) T.d_Reader_peek.b .nil (passes_call (takes_of rfl rfl rfl rfl) fun _ _ _ _ h => h)) pe_str (nomark _))))) (pss_cons (ps_set (i := 3) sc_Reader_read_step.nd rfl (Or.inl rfl) (pe_meth0 (pv 0) T.K_Reader.cl T.d_Reader_read_weight.me (ok_Reader_read_weight T tb_are_figures) (hr.mono (by first | decide | omega)) T.d_Reader_read_weight.b .nil (passes_call (takes_of rfl rfl rfl rfl) fun _ _ _ _ h => h)))
      (pss_one (ps_expr (pe_bm PySem.F.plainAttrs_list PySem.F.slot_list_append PySem.F.type_list_append mt_append (pv 2) (pa_cons (pe_tup (pa_cons (pv 3) (pa_cons (pe_meth0 (pv 0) T.K_Reader.cl T.d_Reader_read_term.me (ok_rt) (hr.mono (by first | decide | omega)) T.d_Reader_read_term.b .nil (passes_call (takes_of rfl rfl rfl rfl) fun _ _ _ _ h => h)) pa_nil))) pa_nil))))))
      (pss_cons (ps_expr (pe_meth (pv 0) T.K_Reader.cl T.d_Reader_expect.me (ok_Reader_expect T) (hr.mono (by first | decide | omega)) T.d_Reader_expect.b .nil (passes_call (takes_of rfl rfl rfl rfl) fun _ _ _ _ h => h) (pa_cons pe_str pa_nil)))
      (pss_one (ps_ret (pe_tup (pa_cons pe_str (pa_cons (pv 1) (pa_cons (pe_callTy call_tuple_of (by rfl) T.n_tuple (by decide +kernel) (pa_cons (pv 2) pa_nil)) pa_nil)))))))))))))), ?_⟩
    unfold rdT at kk
    rw [if_pos h0] at kk
    refine n_seq ?_
    refine s_augSc (T := T) (n := 1) rfl hR ev_c fun H1 r1 hR1 t1 => ?_
    dsimp only
    refine n_seq ?_
    refine s_if (b := decide ((16 : Int) < ((s' + 1 : Nat) : Int))) (et_is (et_test (ev_op (ev_sc (T := T) (i := 0) (σ := [some (.ref rd), none, none, none]) rfl hR1) (ev_c (v := .int 16)) (rv_I0 (g := fun i j => .bl (decide (j < i)))))) ?_) (fun z H2 e2 => ?_) fun z H2 e2 => ?_
    · rfl
    · have z' := of_decide_eq_true z
      rw [if_neg (by omega)] at kk
      exact rd_raiseE (ev_at (T := T) rfl (hR1.ex e2)) (kk H2 (r1.trans (Ex.rx e2)) ((t1 _ ht).ex e2))
    have z' := of_decide_eq_false z
    rw [if_pos (by omega)] at kk
    have hR2 := hR1.ex e2
    have t2 := (t1 _ ht).ex e2
    refine n_next ?_
    refine n_seq ?_
    refine s_expG (T := T) rfl hR2 al (fun _ H3 r3 hR3 t3 => ?_) fun z => absurd h0 z
    have al1 := get_lt h0
    have R3 := (r1.trans (Ex.rx e2)).trans r3
    have kk3 := RsG.rx kk R3
    have t3' := t3 _ t2
    clear kk R3 r1 e2 r3 t3 t2 t1 hR1 hR2 z
    refine n_seq ?_
    dsimp only
    refine s_asgM0 ?_
    refine ⟨_, rfl, rd, dx, _, rfl, hR3.i, rd_pay, ?_⟩
    refine ⟨rd, dx, lw, ws, a + 1, s' + 1, t, p, rfl, hR3, al1, hw, t3', fun nb zp H4 r4 hR4 t4 => ?_, fun nb H4 r4 t4 => ?_⟩
    rotate_left
    · rw [if_neg (by rw [nb]; decide)] at kk3
      exact kk3 H4 r4 t4
    rw [if_pos nb] at kk3
    have al2 : a + 1 + 1 ≤ ws.length := by
      unfold numAt at nb
      cases hx : ws[a + 1]? with
      | none => rw [hx] at nb; cases nb
      | some x => exact get_lt hx
    dsimp only
    refine n_seq ?_
    refine s_expG (T := T) rfl hR4 al2 (fun ho H5 r5 hR5 t5 => ?_) fun z H5 e5 => ?_
    rotate_left
    · rw [if_neg z] at kk3
      exact kk3 H5 (r4.trans (Ex.rx e5)) (t4.ex e5)
    rw [if_pos ho] at kk3
    have al3 := get_lt ho
    have kk5 := RsG.rx kk3 (r4.trans r5)
    have t5' := t5 _ t4
    clear kk3 r4 r5 t4 t5 hR4 hR3 t3'
    generalize hres : rdO (rdT k ws) ws 3 (a + 3) (s' + 1) t p = res at kk5
    refine n_seq ?_
    refine ⟨by show 0 ≤ sizeLine; decide, fun lo flo => ?_⟩
    have xo := Ex.new (o := .lst []) flo
    have hlo : (upd H5 lo (.lst [])) lo = some (.lst []) := upd_same
    have hR6 := hR5.ex xo
    have t6 := t5'.ex xo
    have n1 : lo ≠ rd := (ne_of_none hR5.i flo).symm
    have n2 : lo ≠ lw := (ne_of_none hR5.w flo).symm
    generalize upd H5 lo (.lst []) = H6 at xo hlo hR6 t6
    dsimp only
    refine n_seq ?_
    have lenE : ∀ {σ : L2.St} {G : Hp} {zs : List V}, σ[2]? = some (some (.ref lo)) → G lo = some (.lst zs) → Ev (tCB (fun xs H_1 Q => ∃ p ys, xs = [V.ref p] ∧ (SqL K H_1 p ys ∨ SqT K H_1 p ys) ∧ Q (V.int ys.length) H_1) (tCons (tVar 2) tNil)) σ G (.int (zs.length : Nat)) := fun h0 hz H1 e Q k => ⟨_, h0, lo, _, rfl, .inl (SqL.of (e _ _ hz)), k H1 (Ex.refl _)⟩
    refine while_by (fun σ G => ∃ (n : Nat) (zs : List V) (y3 : Option V) (a1 s1 t1 p1 : Nat), zs.length + n = 3 ∧ σ = [some (.ref rd), some zp, some (.ref lo), y3] ∧ RX rd H5 G ∧ G lo = some (.lst zs) ∧ RS T.K_Reader.C G rd dx lw ws a1 s1 t1 p1 ∧ a1 ≤ ws.length ∧ s1 ≤ 16 ∧ t ≤ t1 ∧ t1 ≤ 48 ∧ p1 ≤ 96 ∧ rdO (rdT k ws) ws n a1 s1 t1 p1 = res ∧ TBs (tts T) G)
      (fun _ G => match G lo with
        | some (.lst zs) => 3 - zs.length
        | _ => 0) ⟨3, [], none, a + 3, s' + 1, t, p, rfl, rfl, Ex.rx xo, hlo, hR6, al3, by omega, Nat.le_refl _, t48, p96, hres, t6⟩ ?_ ?_
    · rintro σ G ⟨n, zs, y3, a1, s1, t1, p1, zn, rfl, rx, hz, hRi, al1', s116, tt1, t148, p196, hr1, ti⟩
      have fin : ∀ G1, Ex G G1 → rdC ws a1 s1 t1 p1 = res → tSeq (tDrop (tMeth T.K_Reader.C "expect" (spExG T.K_Reader.C T.E_BadText.C) [] (fun cls d H' => E cls d H') (tVar 0) (tCons (tC (.str ")")) tNil))) (tRet (tTup (tCons (tC (.str "step")) (tCons (tVar 1) (tCons (tCB (rTupC K) (tCons (tVar 2) tNil)) tNil))))) { nx := fun _ H' => Q .non H', rt := Q } [some (.ref rd), some zp, some (.ref lo), y3] G1 := fun G1 e1 hc => by
        have hR1 := hRi.ex e1
        have tb1 := ti.ex e1
        refine n_seq ?_
        refine s_expG (T := T) rfl hR1 al1' (fun hx G2 r2 hR2 t2 => ?_) fun hx G2 e2 => ?_
        · unfold rdC at hc
          rw [if_pos hx] at hc
          subst hc
          have hz2 := r2 _ _ n1 (by intro ps z; cases z) (e1 _ _ hz)
          refine ⟨_, rfl, _, rfl, lo, zs, rfl, .inl ⟨SqL.of hz2, fun t3 ft3 => ?_⟩⟩
          have x3 := Ex.new (o := .tup zs) ft3
          refine ⟨by show 3 ≤ sizeLine; decide, fun t4 ft4 => ?_⟩
          have x4 := Ex.new (o := .tup [V.str "step", zp, V.ref t3]) ft4
          exact kk5 (.ref t4) _ (rx.trans ((Ex.rx e1).trans (r2.trans (Ex.rx (x3.trans x4))))) (hR2.ex (x3.trans x4)) ((t2 _ tb1).ex (x3.trans x4))
        · unfold rdC at hc
          rw [if_neg hx] at hc
          subst hc
          exact kk5 G2 (rx.trans ((Ex.rx e1).trans (Ex.rx e2))) (tb1.ex e2)
      refine t_and ?_
      cases n with
      | zero =>
        refine (et_is (b := false) (et_test (ev_op (lenE rfl hz) ev_c rv_I0)) (decide_eq_false (by omega))) G (Ex.refl _) _ fun G1 e1 => ifF' rfl (ifF' rfl (fin G1 e1 hr1))
      | succ n =>
        refine (et_is (b := true) (et_test (ev_op (lenE rfl hz) ev_c rv_I0)) (decide_eq_true (by omega))) G (Ex.refl _) _ fun G1 e1 => ifT' rfl ?_
        have hR1 := hRi.ex e1
        have tb1 := ti.ex e1
        have hz1 := e1 _ _ hz
        unfold rdO at hr1
        refine ⟨_, rfl, rd, dx, _, rfl, hR1.i, rd_peek, rd, dx, lw, ws, a1, s1, t1, p1, rfl, hR1, al1', fun x hx G2 e2 => ?_, fun hn G2 e2 => ?_⟩
        rotate_left
        · rw [if_neg (by rw [hn]; exact nofun), if_neg (fun z => by
            have := z.1
            unfold posAt at this
            rw [hn] at this
            cases this)] at hr1
          subst hr1
          exact kk5 G2 (rx.trans ((Ex.rx e1).trans (Ex.rx e2))) (tb1.ex e2)
        refine ⟨rfl, _, rfl, ?_⟩
        by_cases c : x = wC
        · subst c
          rw [if_pos hx] at hr1
          rw [decide_eq_true rfl]
          refine ifF' rfl (fin G2 (e1.trans e2) ?_)
          unfold rdC
          rw [if_pos hx]
          exact hr1
        rw [if_neg (fun z => c (by rw [hx] at z; injection z))] at hr1
        rw [decide_eq_false (fun z => c (by injection z))]
        refine ifT' rfl ?_
        have hR2 := hR1.ex e2
        have tb2 := tb1.ex e2
        have hz2 := e2 _ _ hz1
        have rx2 := rx.trans ((Ex.rx e1).trans (Ex.rx e2))
        refine n_seq ?_
        dsimp only
        refine s_asgM0 ?_
        refine ⟨_, rfl, rd, dx, _, rfl, hR2.i, rd_weight, ?_⟩
        refine ⟨rd, dx, lw, ws, a1, s1, t1, p1, rfl, hR2, al1', hw, tb2, fun hc zw G3 r3 hR3 tb3 => ?_, fun hc G3 r3 tb3 => ?_⟩
        rotate_left
        · rw [if_neg hc] at hr1
          subst hr1
          exact kk5 G3 (rx2.trans r3) tb3
        rw [if_pos hc] at hr1
        have al2' := posAt_lt hc.1
        have hz3 := r3 _ _ n1 (by intro ps z; cases z) hz2
        dsimp only
        refine ⟨_, rfl, .inl ⟨rfl, _, SqL.of hz3⟩, ?_⟩
        refine ⟨_, rfl, ?_⟩
        refine ⟨_, rfl, rd, dx, _, rfl, hR3.i, rd_term, ?_⟩
        have gk := rdT_ok ws k (a1 + 1) s1 (t1 + 1) (p1 + 1) al2' s116 hc.2.1 hc.2.2
        refine ⟨rd, dx, lw, ws, _, _, _, _, rfl, hR3, al2', hw, s116, hc.2.1, hc.2.2, by omega, tb3, ?_⟩
        cases hq : rdT k ws (a1 + 1) s1 (t1 + 1) (p1 + 1) with
        | bad i =>
          rw [hq] at hr1
          subst hr1
          exact fun G4 r4 tb4 => kk5 G4 (rx2.trans (r3.trans r4)) tb4
        | ok a2 s2 t2 p2 =>
          rw [hq] at hr1
          have g2 := gk _ _ _ _ hq
          intro zt G4 r4 hR4 tb4
          have hz4 := r4 _ _ n1 (by intro ps z; cases z) hz3
          refine ⟨by show 2 ≤ sizeLine; decide, fun tt ftt => ?_⟩
          have x5 := Ex.new (o := .tup [zw, zt]) ftt
          have hz5 := x5 _ _ hz4
          have hR5' := hR4.ex x5
          have tb5 := tb4.ex x5
          generalize upd G4 tt (.tup [zw, zt]) = G5 at x5 hz5 hR5' tb5
          refine ⟨lo, zs, .ref tt, rfl, rfl, hz5, small1000 (by omega), ?_⟩
          have up : ExB lo G5 (upd G5 lo (.lst (zs ++ [.ref tt]))) := ExB.upd (ExB.refl lo G5)
          refine ⟨⟨n, zs ++ [.ref tt], some zw, a2, s2, t2, p2, by rw [List.length_append, List.length_singleton]; omega, rfl, ?_, upd_same, hR5'.keepL n1 n2, g2.2.1, g2.2.2.1, by omega, g2.2.2.2.2.1, g2.2.2.2.2.2, hr1, tb5.upd (ys := []) hz5 up⟩, ?_⟩
          · exact RX.mut (rx2.trans (r3.trans (r4.trans (Ex.rx x5)))) flo
          · show (match (upd G5 lo (.lst (zs ++ [.ref tt]))) lo with
              | some (.lst zs) => 3 - zs.length
              | _ => 0) < (match G lo with
              | some (.lst zs) => 3 - zs.length
              | _ => 0)
            rw [upd_same, hz]
            show 3 - (zs ++ [V.ref tt]).length < 3 - zs.length
            rw [List.length_append, List.length_singleton]
            omega
    · rintro σ G Q Q' hq ⟨x, h1, pp, ys, h2, h3, i, j, h4, h5, b, h6, h7⟩
      refine ⟨x, h1, pp, ys, h2, h3, i, j, h4, h5, b, h6, ?_⟩
      by_cases hb : b = true
      · rw [if_pos hb] at h7 ⊢
        obtain ⟨x', g1, a1, dx1, fs1, g2, g3, g4, rd1, dx2, lw1, ws1, a2, s2, t2, p2, g5, g6, g7, g8, g9⟩ := h7
        refine ⟨x', g1, a1, dx1, fs1, g2, g3, g4, rd1, dx2, lw1, ws1, a2, s2, t2, p2, g5, g6, g7, fun y hy H' e' => ?_, g9⟩
        obtain ⟨k1, c, k2, k3⟩ := g8 y hy H' e'
        exact ⟨k1, c, k2, hq _ _ k3⟩
      · rw [if_neg hb] at h7 ⊢
        exact hq _ _ h7
end
/-! ### members, terms, mixes read, either way -/
section
variable {P : Program} {w : World} {K : PySem.W.Frag} {mg : Str → Option Value} {base : Heap}
theorem alG_of (T : Txt K mg) (tb_are_figures : GxR.TabB base mg T.c_are_figures T.P_are_figures) (k : Nat) (ok_rt : FnOk P w K mg base (L2.CX P w) (10 + 2 * k) T.d_Reader_read_term.a T.d_Reader_read_term.fd ["self"] (spTmG (tts T) T.K_Reader.C T.E_BadText.C k)) : FnOk P w K mg base (L2.CX P w) (10 + 2 * k + 1) T.d_Reader_read_members.a T.d_Reader_read_members.fd ["self"] (spAlG (tts T) T.K_Reader.C T.E_BadText.C k) := by
  refine (T.d_Reader_read_members.F.okX (k := 10 + 2 * k) sc_Reader_read_members (fun vs H Q E h => ?_) fun cdv A outer s H vs Q E hr h => ?_)
  · obtain ⟨rd, dx, lw, ws, a, s, t, p, rfl, _⟩ := h
    rfl
  · obtain ⟨rd, dx, lw, ws, a, s', t, p, rfl, hR, h0, al, hw, s16, t48, p96, tk, ht, kk⟩ := h
    refine ⟨_, (pss_cons (ps_expr (pe_meth (pv 0) T.K_Reader.cl T.d_Reader_count_parts.me (ok_Reader_count_parts T) (hr.mono (by first | decide | omega)) T.d_Reader_count_parts.b .nil (passes_call (takes_of rfl rfl rfl rfl) fun _ _ _ _ h => h) (pa_cons pe_int pa_nil)))
      (pss_cons (ps_expr (pe_meth (pv 0) T.K_Reader.cl T.d_Reader_expect.me (ok_Reader_expect T) (hr.mono (by first | decide | omega)) T.d_Reader_expect.b .nil (passes_call (takes_of rfl rfl rfl rfl) fun _ _ _ _ h => h) (pa_cons pe_str pa_nil)))
      (pss_cons (ps_expr (pe_meth (pv 0) T.K_Reader.cl T.d_Reader_expect.me (ok_Reader_expect T) (hr.mono (by first | decide | omega)) T.d_Reader_expect.b .nil (passes_call (takes_of rfl rfl rfl rfl) fun _ _ _ _ h => h) (pa_cons pe_str pa_nil)))
      (pss_cons (ps_set (i := 1) sc_Reader_read_members.nd rfl (Or.inl rfl) (pe_lst (pa_cons (pe_meth0 (pv 0) T.K_Reader.cl T.d_Reader_read_term.me (ok_rt) (hr.mono (by first | decide | omega)) T.d_Reader_read_term.b .nil (passes_call (takes_of rfl rfl rfl rfl) fun _ _ _ _ h => h)) (pa_cons (pe_meth0 (pv 0) T.K_Reader.cl T.d_Reader_read_term.me (ok_rt) (hr.mono (by first | decide | omega)) T.d_Reader_read_term.b .nil (passes_call (takes_of rfl rfl rfl rfl) fun _ _ _ _ h => h)) pa_nil))))
      (pss_cons (ps_if (pt_cmpR op_ne (pe_meth0 (pv 0) T.K_Reader.cl T.d_Reader_peek.me (ok_Reader_peek T) (hr.mono (by first | decide | omega)) T.d_Reader_peek.b .nil (passes_call (takes_of rfl rfl rfl rfl) fun _ _ _ _ h => h)) pe_str (nomark _)) (pss_cons (ps_expr (pe_meth (pv 0) T.K_Reader.cl T.d_Reader_count_parts.me (ok_Reader_count_parts T) (hr.mono (by first | decide | omega)) T.d_Reader_count_parts.b .nil (passes_call (takes_of rfl rfl rfl rfl) fun _ _ _ _ h => h) (pa_cons pe_int pa_nil)))
      (pss_one (ps_expr (pe_bm PySem.F.plainAttrs_list PySem.F.slot_list_append PySem.F.type_list_append mt_append (pv 1) (pa_cons (pe_meth0 (pv 0) T.K_Reader.cl T.d_Reader_read_term.me (ok_rt) (hr.mono (by first | decide | omega)) T.d_Reader_read_term.b .nil (passes_call (takes_of rfl rfl rfl rfl) fun _ _ _ _ h => h)) pa_nil))))) pss_nil)
      (pss_cons (ps_expr (pe_meth (pv 0) T.K_Reader.cl T.d_Reader_expect.me (ok_Reader_expect T) (hr.mono (by first | decide | omega)) T.d_Reader_expect.b .nil (passes_call (takes_of rfl rfl rfl rfl) fun _ _ _ _ h => h) (pa_cons pe_str pa_nil)))
      (pss_one (ps_ret (pe_tup (pa_cons pe_str (pa_cons (pe_callTy call_tuple_of (by rfl) T.n_tuple (by decide +kernel) (pa_cons (pv 1) pa_nil)) pa_nil))))))))))), ?_⟩
    unfold rdT at kk
    rw [if_neg (by rw [h0]; exact fun z => absurd (Option.some.inj z) (by decide +kernel)), if_pos h0] at kk
    have al1 := get_lt h0
    refine n_seq ?_
    refine s_cntG (T := T) (n := 2) rfl hR (fun hc H1 r1 hR1 t1 => ?_) fun hc H1 r1 t1 => ?_
    rotate_left
    · rw [if_neg hc] at kk
      exact kk H1 r1 (t1 _ ht)
    rw [if_pos hc] at kk
    refine n_seq ?_
    refine s_expG (T := T) rfl hR1 al (fun _ H2 r2 hR2 t2 => ?_) fun z => absurd h0 z
    refine n_seq ?_
    have tb2 := t2 _ (t1 _ ht)
    refine s_expG (T := T) rfl hR2 al1 (fun ho H3 r3 hR3 t3 => ?_) fun z H3 e3 => ?_
    rotate_left
    · rw [if_neg z] at kk
      exact kk H3 (r1.trans (r2.trans (Ex.rx e3))) (tb2.ex e3)
    rw [if_pos ho] at kk
    have al2 := get_lt ho
    have tb3 := t3 _ tb2
    have kk3 := RsG.rx kk (r1.trans (r2.trans r3))
    clear kk r1 r2 r3 t1 t2 t3 tb2 hR1 hR2
    unfold rdM at kk3
    refine n_seq ?_
    refine ⟨_, rfl, rd, dx, _, rfl, hR3.i, rd_term, ?_⟩
    have gk := rdT_ok ws k
    have g1 := gk (a + 1 + 1) s' (t + 2) (p + 2) al2 s16 hc.1 hc.2
    refine ⟨rd, dx, lw, ws, _, _, _, _, rfl, hR3, al2, hw, s16, hc.1, hc.2, by omega, tb3, ?_⟩
    cases hq1 : rdT k ws (a + 1 + 1) s' (t + 2) (p + 2) with
    | bad i =>
      rw [hq1] at kk3
      exact kk3
    | ok a1 s1 t1 p1 =>
      rw [hq1] at kk3
      have g1 := g1 _ _ _ _ hq1
      intro m1 H4 r4 hR4 tb4
      have kk4 := RsG.rx kk3 r4
      clear kk3
      dsimp only at kk4
      refine ⟨_, rfl, rd, dx, _, rfl, hR4.i, rd_term, ?_⟩
      have g2 := gk a1 s1 t1 p1 g1.2.1 g1.2.2.1 g1.2.2.2.2.1 g1.2.2.2.2.2
      refine ⟨rd, dx, lw, ws, _, _, _, _, rfl, hR4, g1.2.1, hw, g1.2.2.1, g1.2.2.2.2.1, g1.2.2.2.2.2, by omega, tb4, ?_⟩
      cases hq2 : rdT k ws a1 s1 t1 p1 with
      | bad i =>
        rw [hq2] at kk4
        exact kk4
      | ok a2 s2 t2 p2 =>
        rw [hq2] at kk4
        have g2 := g2 _ _ _ _ hq2
        intro m2 H5 r5 hR5 tb5
        have kk5 := RsG.rx kk4 r5
        clear kk4
        dsimp only at kk5
        refine ⟨by show 2 ≤ sizeLine; decide, fun lo flo => ?_⟩
        have xo := Ex.new (o := .lst [m1, m2]) flo
        have hlo : (upd H5 lo (.lst [m1, m2])) lo = some (.lst [m1, m2]) := upd_same
        have hR6 := hR5.ex xo
        have tb6 := tb5.ex xo
        have n1 : lo ≠ rd := (ne_of_none hR5.i flo).symm
        have n2 : lo ≠ lw := (ne_of_none hR5.w flo).symm
        generalize upd H5 lo (.lst [m1, m2]) = H6 at xo hlo hR6 tb6
        dsimp only
        generalize hres : rdM3 (rdT k ws) ws a2 s2 t2 p2 = res at kk5
        have fin : ∀ (G : Hp) (zs : List V) (a3 s3 t3 p3 : Nat), RX rd H5 G → RS T.K_Reader.C G rd dx lw ws a3 s3 t3 p3 → a3 ≤ ws.length → G lo = some (.lst zs) → TBs (tts T) G → rdC ws a3 s3 t3 p3 = res → tSeq (tDrop (tMeth T.K_Reader.C "expect" (spExG T.K_Reader.C T.E_BadText.C) [] (fun cls d H' => E cls d H') (tVar 0) (tCons (tC (.str ")")) tNil))) (tRet (tTup (tCons (tC (.str "all")) (tCons (tCB (rTupC K) (tCons (tVar 1) tNil)) tNil)))) { nx := fun _ H' => Q .non H', rt := Q } [some (.ref rd), some (.ref lo)] G := fun G zs a3 s3 t3 p3 rx hRg al3 hz tbg hc => by
          refine n_seq ?_
          refine s_expG (T := T) rfl hRg al3 (fun hx G2 r2 hR2 t2' => ?_) fun hx G2 e2 => ?_
          · unfold rdC at hc
            rw [if_pos hx] at hc
            subst hc
            have hz2 := r2 _ _ n1 (by intro ps z; cases z) hz
            refine ⟨_, rfl, lo, zs, rfl, .inl ⟨SqL.of hz2, fun t3' ft3 => ?_⟩⟩
            have x3 := Ex.new (o := .tup zs) ft3
            refine ⟨by show 2 ≤ sizeLine; decide, fun t4 ft4 => ?_⟩
            have x4 := Ex.new (o := .tup [V.str "all", V.ref t3']) ft4
            exact kk5 (.ref t4) _ (rx.trans (r2.trans (Ex.rx (x3.trans x4)))) (hR2.ex (x3.trans x4)) ((t2' _ tbg).ex (x3.trans x4))
          · unfold rdC at hc
            rw [if_neg hx] at hc
            subst hc
            exact kk5 G2 (rx.trans (Ex.rx e2)) (tbg.ex e2)
        unfold rdM3 at hres
        refine n_seq ?_
        refine ⟨_, rfl, rd, dx, _, rfl, hR6.i, rd_peek, rd, dx, lw, ws, a2, s2, t2, p2, rfl, hR6, g2.2.1, fun x hx G2 e2 => ?_, fun hn G2 e2 => ?_⟩
        rotate_left
        · have hb : res = .bad a2 := by
            rw [if_neg (by rw [hn]; exact nofun)] at hres
            by_cases c2 : t2 + 1 ≤ 48 ∧ p2 + 1 ≤ 96
            · rw [if_pos c2] at hres
              have e : rdT k ws a2 s2 (t2 + 1) (p2 + 1) = .bad a2 := by
                cases k with
                | zero => rfl
                | succ k =>
                  unfold rdT
                  rw [if_neg (by rw [hn]; exact nofun), if_neg (by rw [hn]; exact nofun), if_neg (by rw [hn]; exact nofun)]
              rw [e] at hres
              exact hres.symm
            · rw [if_neg c2] at hres
              exact hres.symm
          rw [hb] at kk5
          exact kk5 G2 ((Ex.rx xo).trans (Ex.rx e2)) (tb6.ex e2)
        refine ⟨rfl, _, rfl, ?_⟩
        have hRg := hR6.ex e2
        have tbg := tb6.ex e2
        have hz2 := e2 _ _ hlo
        have rxg := (Ex.rx (rd := rd) xo).trans (Ex.rx e2)
        by_cases c : x = wC
        · subst c
          rw [if_pos hx] at hres
          rw [decide_eq_true rfl]
          refine ifF' rfl (n_next (fin G2 _ a2 s2 t2 p2 rxg hRg g2.2.1 hz2 tbg ?_))
          unfold rdC
          rw [if_pos hx]
          exact hres
        rw [if_neg (fun z => c (by rw [hx] at z; injection z))] at hres
        rw [decide_eq_false (fun z => c (by injection z))]
        refine ifT' rfl ?_
        refine n_seq ?_
        refine s_cntG (T := T) (n := 1) rfl hRg (fun hc3 H7 r7 hR7 t7 => ?_) fun hc3 H7 r7 t7 => ?_
        rotate_left
        · rw [if_neg hc3] at hres
          subst hres
          exact kk5 H7 (rxg.trans r7) (t7 _ tbg)
        rw [if_pos hc3] at hres
        have tb7 := t7 _ tbg
        have hz7 := r7 _ _ n1 (by intro ps z; cases z) hz2
        refine ⟨_, rfl, .inl ⟨rfl, _, SqL.of hz7⟩, ?_⟩
        refine ⟨_, rfl, rd, dx, _, rfl, hR7.i, rd_term, ?_⟩
        have g3 := gk a2 s2 (t2 + 1) (p2 + 1) g2.2.1 g2.2.2.1 hc3.1 hc3.2
        refine ⟨rd, dx, lw, ws, _, _, _, _, rfl, hR7, g2.2.1, hw, g2.2.2.1, hc3.1, hc3.2, by omega, tb7, ?_⟩
        cases hq3 : rdT k ws a2 s2 (t2 + 1) (p2 + 1) with
        | bad i =>
          rw [hq3] at hres
          subst hres
          exact fun G4 r4' tb4' => kk5 G4 (rxg.trans (r7.trans r4')) tb4'
        | ok a3 s3 t3 p3 =>
          rw [hq3] at hres
          have g3 := g3 _ _ _ _ hq3
          intro m3 H8 r8 hR8 tb8
          have hz8 := r8 _ _ n1 (by intro ps z; cases z) hz7
          refine ⟨lo, [m1, m2], m3, rfl, rfl, hz8, (by show 2 < sizeLine; decide), ?_⟩
          have up : ExB lo H8 (upd H8 lo (.lst ([m1, m2] ++ [m3]))) := ExB.upd (ExB.refl lo H8)
          exact fin _ _ a3 s3 t3 p3 (RX.mut (rxg.trans (r7.trans r8)) flo) (hR8.keepL n1 n2) g3.2.1 upd_same (tb8.upd (ys := []) hz8 up) hres
theorem tmG_of (T : Txt K mg) (k : Nat) (ok_rs : FnOk P w K mg base (L2.CX P w) (10 + 2 * k + 1) T.d_Reader_read_step.a T.d_Reader_read_step.fd ["self"] (spStG (tts T) T.K_Reader.C T.E_BadText.C k)) (ok_rm : FnOk P w K mg base (L2.CX P w) (10 + 2 * k + 1) T.d_Reader_read_members.a T.d_Reader_read_members.fd ["self"] (spAlG (tts T) T.K_Reader.C T.E_BadText.C k)) : FnOk P w K mg base (L2.CX P w) (10 + 2 * k + 1 + 1) T.d_Reader_read_term.a T.d_Reader_read_term.fd ["self"] (spTmG (tts T) T.K_Reader.C T.E_BadText.C (k + 1)) := by
  refine (T.d_Reader_read_term.F.okX (k := 10 + 2 * k + 1) sc_Reader_read_term (fun vs H Q E h => ?_) fun cdv A outer s H vs Q E hr h => ?_)
  · obtain ⟨rd, dx, lw, ws, a, s, t, p, rfl, _⟩ := h
    rfl
  · obtain ⟨rd, dx, lw, ws, a, s', t, p, rfl, hR, al, hw, s16, t48, p96, tk, ht, kk⟩ := h
    refine ⟨_, (pss_cons (ps_set (i := 1) sc_Reader_read_term.nd rfl (Or.inl rfl) (pe_meth0 (pv 0) T.K_Reader.cl T.d_Reader_peek.me (ok_Reader_peek T) (hr.mono (by first | decide | omega)) T.d_Reader_peek.b .nil (passes_call (takes_of rfl rfl rfl rfl) fun _ _ _ _ h => h)))
      (pss_cons (ps_if (pt_cmpR op_eq (pv 1) pe_str (nomark _)) (pss_one (ps_ret (pe_meth0 (pv 0) T.K_Reader.cl T.d_Reader_read_step.me (ok_rs) (hr.mono (by first | decide | omega)) T.d_Reader_read_step.b .nil (passes_call (takes_of rfl rfl rfl rfl) fun _ _ _ _ h => h)))) pss_nil)
      (pss_cons (ps_if (pt_cmpR op_eq (pv 1) pe_str (nomark _)) (pss_one (ps_ret (pe_meth0 (pv 0) T.K_Reader.cl T.d_Reader_read_members.me (ok_rm) (hr.mono (by first | decide | omega)) T.d_Reader_read_members.b .nil (passes_call (takes_of rfl rfl rfl rfl) fun _ _ _ _ h => h)))) pss_nil)
      (pss_cons (ps_expr (pe_meth (pv 0) T.K_Reader.cl T.d_Reader_expect.me (ok_Reader_expect T) (hr.mono (by first | decide | omega)) T.d_Reader_expect.b .nil (passes_call (takes_of rfl rfl rfl rfl) fun _ _ _ _ h => h) (pa_cons pe_str pa_nil)))
      (pss_one (ps_ret (pe_glob (v := .ref T.a_END) rfl T.c_END rfl))))))), ?_⟩
    refine n_seq ?_
    refine s_asgM0 ?_
    refine ⟨_, rfl, rd, dx, _, rfl, hR.i, rd_peek, rd, dx, lw, ws, a, s', t, p, rfl, hR, al, fun x hx H1 e1 => ?_, fun hn H1 e1 => ?_⟩
    rotate_left
    · have e : rdT (k + 1) ws a s' t p = .bad a := by
        unfold rdT
        rw [if_neg (by rw [hn]; exact nofun), if_neg (by rw [hn]; exact nofun), if_neg (by rw [hn]; exact nofun)]
      rw [e] at kk
      exact kk H1 (Ex.rx e1) (ht.ex e1)
    have hR1 := hR.ex e1
    have tb1 := ht.ex e1
    dsimp only
    have tst : ∀ {G : Hp} (y : Str), EvT (tTest (tOp rEq (tVar 1) (tC (.str y)))) [some (.ref rd), some (.str x)] G (decide (V.str x = V.str y)) := fun y => et_test (ev_op (ev_var rfl) ev_c (rv_eq rfl))
    refine n_seq ?_
    refine s_if (tst _) (fun z H2 e2 => ?_) fun z H2 e2 => ?_
    · have z' : x = wStep := by
        have := of_decide_eq_true z
        injection this
      subst z'
      have hR2 := hR1.ex e2
      refine ⟨_, rfl, rd, dx, _, rfl, hR2.i, rd_step, ?_⟩
      exact ⟨rd, dx, lw, ws, a, s', t, p, rfl, hR2, hx, al, hw, s16, t48, p96, tk, tb1.ex e2, RsG.rx kk ((Ex.rx e1).trans (Ex.rx e2))⟩
    have c1 : ¬ ws[a]? = some wStep := fun y => by
      rw [hx] at y
      injection y with y
      have := of_decide_eq_false z
      exact this (by rw [y])
    refine n_next ?_
    refine n_seq ?_
    refine s_if (tst _) (fun z2 H3 e3 => ?_) fun z2 H3 e3 => ?_
    · have z' : x = wAll := by
        have := of_decide_eq_true z2
        injection this
      subst z'
      have hR3 := (hR1.ex e2).ex e3
      refine ⟨_, rfl, rd, dx, _, rfl, hR3.i, rd_members, ?_⟩
      exact ⟨rd, dx, lw, ws, a, s', t, p, rfl, hR3, hx, al, hw, s16, t48, p96, tk, (tb1.ex e2).ex e3, RsG.rx kk ((Ex.rx e1).trans ((Ex.rx e2).trans (Ex.rx e3)))⟩
    have c2 : ¬ ws[a]? = some wAll := fun y => by
      rw [hx] at y
      injection y with y
      have := of_decide_eq_false z2
      exact this (by rw [y])
    refine n_next ?_
    refine n_seq ?_
    have hR3 := (hR1.ex e2).ex e3
    have tb3 := (tb1.ex e2).ex e3
    have X3 := (Ex.rx (rd := rd) e1).trans ((Ex.rx e2).trans (Ex.rx e3))
    unfold rdT at kk
    rw [if_neg c1, if_neg c2] at kk
    refine s_expG (T := T) rfl hR3 al (fun he H4 r4 hR4 t4 => ?_) fun he H4 e4 => ?_
    · rw [if_pos he] at kk
      exact kk _ H4 (X3.trans r4) hR4 (t4 _ tb3)
    · rw [if_neg he] at kk
      exact kk H4 (X3.trans (Ex.rx e4)) (tb3.ex e4)
theorem ok_Reader_read_term (T : Txt K mg) (tb_are_figures : GxR.TabB base mg T.c_are_figures T.P_are_figures) : ∀ k, FnOk P w K mg base (L2.CX P w) (10 + 2 * k) T.d_Reader_read_term.a T.d_Reader_read_term.fd ["self"] (spTmG (tts T) T.K_Reader.C T.E_BadText.C k)
  | 0 => by
    refine (T.d_Reader_read_term.F.okX (k := 9) sc_Reader_read_term (fun vs H Q E h => ?_) fun cdv A outer s H vs Q E hr h => ?_)
    · obtain ⟨rd, dx, lw, ws, a, s, t, p, rfl, _⟩ := h
      rfl
    · obtain ⟨rd, dx, lw, ws, a, s', t, p, rfl, hR, al, hw, s16, t48, p96, tk, _⟩ := h
      omega
  | k + 1 => tmG_of T k (stG_of T tb_are_figures k (ok_Reader_read_term T tb_are_figures k)) (alG_of T tb_are_figures k (ok_Reader_read_term T tb_are_figures k))
end
/-! ### whole terms, mixes, texts read, either way -/
def rdW (ws : List Str) (a s p : Nat) : Rd := if p + 1 ≤ 96 then rdT 50 ws a s 1 (p + 1) else .bad a
def rdN (ws : List Str) : Nat → Nat → Nat → Nat → Nat → Rd
  | 0, a, s, t, p => rdC ws a s t p
  | n + 1, a, s, t, p => if ws[a]? = some wC then .ok (a + 1) s t p else
    match rdW ws a s p with
    | .bad i => .bad i
    | .ok a' s' t' p' => rdN ws n a' s' t' p'
def rdMix (ws : List Str) : Rd :=
  if ws[0]? = some wMix then
    if ws[1]? = some wO then
      match rdW ws 2 0 0 with
      | .bad i => .bad i
      | .ok a s t p => rdN ws 3 a s t p
    else .bad 1
  else .bad 0
/-- where a whole text is bad -/
def rdE (ws : List Str) : Rd → Option Nat
  | .bad i => some i
  | .ok a _ _ _ => if a < ws.length then some a else none
def badT (ws : List Str) : Option Nat := rdE ws (rdW ws 0 0 0)
def badM (ws : List Str) : Option Nat := rdE ws (rdMix ws)
theorem rdW_ok {ws : List Str} {a s p a' s' t' p' : Nat} (h1 : a ≤ ws.length) (h2 : s ≤ 16) (e : rdW ws a s p = .ok a' s' t' p') : a' ≤ ws.length ∧ s' ≤ 16 ∧ t' ≤ 48 ∧ p' ≤ 96 := by
  unfold rdW at e
  by_cases c : p + 1 ≤ 96
  · rw [if_pos c] at e
    have := rdT_ok ws 50 a s 1 (p + 1) h1 h2 (by decide) c _ _ _ _ e
    omega
  · rw [if_neg c] at e
    cases e
theorem rdW_none {ws : List Str} {a s p : Nat} (h : ws[a]? = none) : rdW ws a s p = .bad a := by
  unfold rdW
  by_cases c : p + 1 ≤ 96
  · rw [if_pos c]
    unfold rdT
    rw [if_neg (by rw [h]; exact nofun), if_neg (by rw [h]; exact nofun), if_neg (by rw [h]; exact nofun)]
  · rw [if_neg c]
def spWhG (Ts : TbS) (C CB : Addr) : Sp := fun vs H Q E => ∃ (rd dx lw : Addr) (ws : List Str) (a s t p : Nat), vs = [.ref rd] ∧ RS C H rd dx lw ws a s t p ∧ a ≤ ws.length ∧ WsOk ws ∧ s ≤ 16 ∧ TBs Ts H ∧ RsG Ts C CB rd dx lw ws H Q E (rdW ws a s p)
section
variable {P : Program} {w : World} {K : PySem.W.Frag} {mg : Str → Option Value} {base : Heap}
theorem ok_Reader_read_whole_term (T : Txt K mg) (tb_are_figures : GxR.TabB base mg T.c_are_figures T.P_are_figures) : FnOk P w K mg base (L2.CX P w) 112 T.d_Reader_read_whole_term.a T.d_Reader_read_whole_term.fd ["self"] (spWhG (tts T) T.K_Reader.C T.E_BadText.C) := by
  refine T.d_Reader_read_whole_term.F.okX sc_Reader_read_whole_term (fun vs H Q E h => ?_) (fun cdv A outer s H vs Q E hr h => ?_)
  · obtain ⟨rd, dx, lw, ws, a, s, t, p, rfl, _⟩ := h
    rfl
  · obtain ⟨rd, dx, lw, ws, a, s', t, p, rfl, hR, al, hw, s16, ht, kk⟩ := h
    refine ⟨_, (pss_cons (ps_fld (pv 0) pe_int (by rfl))
      (pss_cons (ps_expr (pe_meth (pv 0) T.K_Reader.cl T.d_Reader_count_parts.me (ok_Reader_count_parts T) (hr.mono (by first | decide | omega)) T.d_Reader_count_parts.b .nil (passes_call (takes_of rfl rfl rfl rfl) fun _ _ _ _ h => h) (pa_cons pe_int pa_nil)))
      (pss_one (ps_ret (pe_meth0 (pv 0) T.K_Reader.cl T.d_Reader_read_term.me (ok_Reader_read_term T tb_are_figures 50) (hr.mono (by first | decide | omega)) T.d_Reader_read_term.b .nil (passes_call (takes_of rfl rfl rfl rfl) fun _ _ _ _ h => h)))))), ?_⟩
    refine n_seq ?_
    refine ⟨_, rfl, rd, T.K_Reader.C, dx, _, rfl, hR.i, T.K_Reader.cl, T.f_term_parts, by show 5 < 1000; decide, ?_⟩
    have e0 : putF ("term_parts" : Str) (V.int 0) (rdF lw a s' t p) = rdF lw a s' 0 p := pt_tp
    rw [e0]
    have hR1 : RS T.K_Reader.C (upd H rd (.ins T.K_Reader.C dx (rdF lw a s' 0 p))) rd dx lw ws a s' 0 p := hR.put
    have r1 : RX rd H (upd H rd (.ins T.K_Reader.C dx (rdF lw a s' 0 p))) := RX.refl.upd
    have tb1 := hR.tb (o := .ins T.K_Reader.C dx (rdF lw a s' 0 p)) ht
    generalize upd H rd (.ins T.K_Reader.C dx (rdF lw a s' 0 p)) = H1 at hR1 r1 tb1
    refine n_seq ?_
    unfold rdW at kk
    refine s_cntG (T := T) (n := 1) rfl hR1 (fun hc H2 r2 hR2 t2 => ?_) fun hc H2 r2 t2 => ?_
    · rw [if_pos hc.2] at kk
      refine ⟨_, rfl, rd, dx, _, rfl, hR2.i, rd_term, ?_⟩
      exact ⟨rd, dx, lw, ws, _, _, _, _, rfl, hR2, al, hw, s16, by decide, hc.2, by decide, t2 _ tb1, RsG.rx kk (r1.trans r2)⟩
    · rw [if_neg (by omega)] at kk
      exact kk H2 (r1.trans r2) (t2 _ tb1)
def spMxG (Ts : TbS) (C CB : Addr) : Sp := fun vs H Q E => ∃ (rd dx lw : Addr) (ws : List Str), vs = [.ref rd] ∧ RS C H rd dx lw ws 0 0 0 0 ∧ WsOk ws ∧ TBs Ts H ∧ RsG Ts C CB rd dx lw ws H Q E (rdMix ws)
theorem ok_Reader_read_mix (T : Txt K mg) (tb_are_figures : GxR.TabB base mg T.c_are_figures T.P_are_figures) : FnOk P w K mg base (L2.CX P w) 114 T.d_Reader_read_mix.a T.d_Reader_read_mix.fd ["self"] (spMxG (tts T) T.K_Reader.C T.E_BadText.C) := by
  refine T.d_Reader_read_mix.F.okX sc_Reader_read_mix (fun vs H Q E h => ?_) (fun cdv A outer s H vs Q E hr h => ?_)
  · obtain ⟨rd, dx, lw, ws, rfl, _⟩ := h
    rfl
  · obtain ⟨rd, dx, lw, ws, rfl, hR, hw, ht, kk⟩ := h
    refine ⟨_, (pss_cons (ps_expr (pe_meth (pv 0) T.K_Reader.cl T.d_Reader_expect.me (ok_Reader_expect T) (hr.mono (by first | decide | omega)) T.d_Reader_expect.b .nil (passes_call (takes_of rfl rfl rfl rfl) fun _ _ _ _ h => h) (pa_cons pe_str pa_nil)))
      (pss_cons (ps_expr (pe_meth (pv 0) T.K_Reader.cl T.d_Reader_expect.me (ok_Reader_expect T) (hr.mono (by first | decide | omega)) T.d_Reader_expect.b .nil (passes_call (takes_of rfl rfl rfl rfl) fun _ _ _ _ h => h) (pa_cons pe_str pa_nil)))
      (pss_cons (ps_set (i := 1) sc_Reader_read_mix.nd rfl (Or.inl rfl) (pe_lst (pa_cons (pe_meth0 (pv 0) T.K_Reader.cl T.d_Reader_read_whole_term.me (ok_Reader_read_whole_term T tb_are_figures) (hr.mono (by first | decide | omega)) T.d_Reader_read_whole_term.b .nil (passes_call (takes_of rfl rfl rfl rfl) fun _ _ _ _ h => h)) pa_nil)))
      (pss_cons (ps_while (passes_of rfl) (PW.pt (pw_and (pt_cmpR op_lt (pe_callB call_len_seq (by rfl) T.n_len (by decide +kernel) (pa_cons (pv 1) pa_nil)) (pe_glob (v := .int 4) rfl T.c_MOST_TERMS ⟨_, rfl⟩) (nomark _)) (pw_and1 (pt_cmpR op_ne (pe_meth0 (pv 0) T.K_Reader.cl T.d_Reader_peek.me (ok_Reader_peek T) (hr.mono (by first | decide | omega)) T.d_Reader_peek.b .nil (passes_call (takes_of rfl rfl rfl rfl) fun _ _ _ _ h => h)) pe_str (nomark _))))) (pss_one (ps_expr (pe_bm PySem.F.plainAttrs_list PySem.F.slot_list_append PySem.F.type_list_append mt_append (pv 1) (pa_cons (pe_meth0 (pv 0) T.K_Reader.cl T.d_Reader_read_whole_term.me (ok_Reader_read_whole_term T tb_are_figures) (hr.mono (by first | decide | omega)) T.d_Reader_read_whole_term.b .nil (passes_call (takes_of rfl rfl rfl rfl) fun _ _ _ _ h => h)) pa_nil)))))
      (pss_cons (ps_expr (pe_meth (pv 0) T.K_Reader.cl T.d_Reader_expect.me (ok_Reader_expect T) (hr.mono (by first | decide | omega)) T.d_Reader_expect.b .nil (passes_call (takes_of rfl rfl rfl rfl) fun _ _ _ _ h => h) (pa_cons pe_str pa_nil)))
      (pss_one (ps_ret (pe_callTy call_tuple_of (by rfl) T.n_tuple (by decide +kernel) (pa_cons (pv 1) pa_nil))))))))), ?_⟩
    unfold rdMix at kk
    refine n_seq ?_
    refine s_expG (T := T) rfl hR (Nat.zero_le _) (fun h0 H1 r1 hR1 t1 => ?_) fun h0 H1 e1 => ?_
    rotate_left
    · rw [if_neg h0] at kk
      exact kk H1 (Ex.rx e1) (ht.ex e1)
    rw [if_pos h0] at kk
    refine n_seq ?_
    have tb1 := t1 _ ht
    refine s_expG (T := T) rfl hR1 (get_lt h0) (fun h2 H2 r2 hR2 t2 => ?_) fun h2 H2 e2 => ?_
    rotate_left
    · rw [if_neg h2] at kk
      exact kk H2 (r1.trans (Ex.rx e2)) (tb1.ex e2)
    rw [if_pos h2] at kk
    have al2 := get_lt h2
    have tb2 := t2 _ tb1
    have kk2 := RsG.rx kk (r1.trans r2)
    clear kk r1 r2 t1 t2 tb1 hR1
    refine n_seq ?_
    refine ⟨_, rfl, rd, dx, _, rfl, hR2.i, rd_whole, ?_⟩
    refine ⟨rd, dx, lw, ws, _, _, _, _, rfl, hR2, al2, hw, by decide, tb2, ?_⟩
    show RsG _ _ _ _ _ _ _ _ _ _ (rdW ws 2 0 0)
    cases hq : rdW ws 2 0 0 with
    | bad i =>
      rw [hq] at kk2
      exact kk2
    | ok a s1 t p =>
      rw [hq] at kk2
      have g := rdW_ok al2 (by decide) hq
      intro m1 H3 r3 hR3 tb3
      have kk5 := RsG.rx kk2 r3
      clear kk2
      dsimp only at kk5
      generalize hres : rdN ws 3 a s1 t p = res at kk5
      refine ⟨by show 1 ≤ sizeLine; decide, fun lo flo => ?_⟩
      have xo := Ex.new (o := .lst [m1]) flo
      have hlo : (upd H3 lo (.lst [m1])) lo = some (.lst [m1]) := upd_same
      have hR6 := hR3.ex xo
      have t6 := tb3.ex xo
      have n1 : lo ≠ rd := (ne_of_none hR3.i flo).symm
      have n2 : lo ≠ lw := (ne_of_none hR3.w flo).symm
      generalize upd H3 lo (.lst [m1]) = H6 at xo hlo hR6 t6
      dsimp only
      refine n_seq ?_
      have lenE : ∀ {σ : L2.St} {G : Hp} {zs : List V}, σ[1]? = some (some (.ref lo)) → G lo = some (.lst zs) → Ev (tCB (fun xs H_1 Q => ∃ p ys, xs = [V.ref p] ∧ (SqL K H_1 p ys ∨ SqT K H_1 p ys) ∧ Q (V.int ys.length) H_1) (tCons (tVar 1) tNil)) σ G (.int (zs.length : Nat)) := fun h0 hz H1 e Q k => ⟨_, h0, lo, _, rfl, .inl (SqL.of (e _ _ hz)), k H1 (Ex.refl _)⟩
      refine while_by (fun σ G => ∃ (n : Nat) (zs : List V) (a1 s1 t1 p1 : Nat), zs.length + n = 4 ∧ σ = [some (.ref rd), some (.ref lo)] ∧ RX rd H3 G ∧ G lo = some (.lst zs) ∧ RS T.K_Reader.C G rd dx lw ws a1 s1 t1 p1 ∧ a1 ≤ ws.length ∧ s1 ≤ 16 ∧ rdN ws n a1 s1 t1 p1 = res ∧ TBs (tts T) G)
        (fun _ G => match G lo with
          | some (.lst zs) => 4 - zs.length
          | _ => 0) ⟨3, [m1], a, s1, t, p, rfl, rfl, Ex.rx xo, hlo, hR6, g.1, g.2.1, hres, t6⟩ ?_ ?_
      · rintro σ G ⟨n, zs, a1, s1, t1, p1, zn, rfl, rx, hz, hRi, al1', s116, hr1, ti⟩
        have fin : ∀ G1, Ex G G1 → rdC ws a1 s1 t1 p1 = res → tSeq (tDrop (tMeth T.K_Reader.C "expect" (spExG T.K_Reader.C T.E_BadText.C) [] (fun cls d H' => E cls d H') (tVar 0) (tCons (tC (.str ")")) tNil))) (tRet (tCB (rTupC K) (tCons (tVar 1) tNil))) { nx := fun _ H' => Q .non H', rt := Q } [some (.ref rd), some (.ref lo)] G1 := fun G1 e1 hc => by
          have hR1 := hRi.ex e1
          have tb1 := ti.ex e1
          refine n_seq ?_
          refine s_expG (T := T) rfl hR1 al1' (fun hx G2 r2 hR2 t2 => ?_) fun hx G2 e2 => ?_
          · unfold rdC at hc
            rw [if_pos hx] at hc
            subst hc
            have hz2 := r2 _ _ n1 (by intro ps z; cases z) (e1 _ _ hz)
            refine ⟨_, rfl, lo, zs, rfl, .inl ⟨SqL.of hz2, fun t3 ft3 => ?_⟩⟩
            have x3 := Ex.new (o := .tup zs) ft3
            exact kk5 (.ref t3) _ (rx.trans ((Ex.rx e1).trans (r2.trans (Ex.rx x3)))) (hR2.ex x3) ((t2 _ tb1).ex x3)
          · unfold rdC at hc
            rw [if_neg hx] at hc
            subst hc
            exact kk5 G2 (rx.trans ((Ex.rx e1).trans (Ex.rx e2))) (tb1.ex e2)
        refine t_and ?_
        cases n with
        | zero =>
          refine (et_is (b := false) (et_test (ev_op (lenE rfl hz) ev_c rv_I0)) (decide_eq_false (by omega))) G (Ex.refl _) _ fun G1 e1 => ifF' rfl (ifF' rfl (fin G1 e1 hr1))
        | succ n =>
          refine (et_is (b := true) (et_test (ev_op (lenE rfl hz) ev_c rv_I0)) (decide_eq_true (by omega))) G (Ex.refl _) _ fun G1 e1 => ifT' rfl ?_
          have hR1 := hRi.ex e1
          have tb1 := ti.ex e1
          have hz1 := e1 _ _ hz
          unfold rdN at hr1
          refine ⟨_, rfl, rd, dx, _, rfl, hR1.i, rd_peek, rd, dx, lw, ws, a1, s1, t1, p1, rfl, hR1, al1', fun x hx G2 e2 => ?_, fun hn G2 e2 => ?_⟩
          rotate_left
          · rw [if_neg (by rw [hn]; exact nofun), rdW_none hn] at hr1
            subst hr1
            exact kk5 G2 (rx.trans ((Ex.rx e1).trans (Ex.rx e2))) (tb1.ex e2)
          refine ⟨rfl, _, rfl, ?_⟩
          by_cases c : x = wC
          · subst c
            rw [if_pos hx] at hr1
            rw [decide_eq_true rfl]
            refine ifF' rfl (fin G2 (e1.trans e2) ?_)
            unfold rdC
            rw [if_pos hx]
            exact hr1
          rw [if_neg (fun z => c (by rw [hx] at z; injection z))] at hr1
          rw [decide_eq_false (fun z => c (by injection z))]
          refine ifT' rfl ?_
          have hR2 := hR1.ex e2
          have tb2 := tb1.ex e2
          have hz2 := e2 _ _ hz1
          have rx2 := rx.trans ((Ex.rx e1).trans (Ex.rx e2))
          refine ⟨_, rfl, .inl ⟨rfl, _, SqL.of hz2⟩, ?_⟩
          refine ⟨_, rfl, rd, dx, _, rfl, hR2.i, rd_whole, ?_⟩
          refine ⟨rd, dx, lw, ws, _, _, _, _, rfl, hR2, al1', hw, s116, tb2, ?_⟩
          cases hq : rdW ws a1 s1 p1 with
          | bad i =>
            rw [hq] at hr1
            subst hr1
            exact fun G4 r4 tb4 => kk5 G4 (rx2.trans r4) tb4
          | ok a2 s2 t2 p2 =>
            rw [hq] at hr1
            have g2 := rdW_ok al1' s116 hq
            intro zt G4 r4 hR4 tb4
            have hz4 := r4 _ _ n1 (by intro ps z; cases z) hz2
            refine ⟨lo, zs, zt, rfl, rfl, hz4, small1000 (by omega), ?_⟩
            have up : ExB lo G4 (upd G4 lo (.lst (zs ++ [zt]))) := ExB.upd (ExB.refl lo G4)
            refine ⟨⟨n, zs ++ [zt], a2, s2, t2, p2, by rw [List.length_append, List.length_singleton]; omega, rfl, ?_, upd_same, hR4.keepL n1 n2, g2.1, g2.2.1, hr1, tb4.upd (ys := []) hz4 up⟩, ?_⟩
            · exact RX.mut (rx2.trans r4) flo
            · show (match (upd G4 lo (.lst (zs ++ [zt]))) lo with
                | some (.lst zs) => 4 - zs.length
                | _ => 0) < (match G lo with
                | some (.lst zs) => 4 - zs.length
                | _ => 0)
              rw [upd_same, hz]
              show 4 - (zs ++ [zt]).length < 4 - zs.length
              rw [List.length_append, List.length_singleton]
              omega
      · rintro σ G Q Q' hq ⟨x, h1, pp, ys, h2, h3, i, j, h4, h5, b, h6, h7⟩
        refine ⟨x, h1, pp, ys, h2, h3, i, j, h4, h5, b, h6, ?_⟩
        by_cases hb : b = true
        · rw [if_pos hb] at h7 ⊢
          obtain ⟨x', g1, a1, dx1, fs1, g2, g3, g4, rd1, dx2, lw1, ws1, a2, s2, t2, p2, g5, g6, g7, g8, g9⟩ := h7
          refine ⟨x', g1, a1, dx1, fs1, g2, g3, g4, rd1, dx2, lw1, ws1, a2, s2, t2, p2, g5, g6, g7, fun y hy H' e' => ?_, g9⟩
          obtain ⟨k1, c, k2, k3⟩ := g8 y hy H' e'
          exact ⟨k1, c, k2, hq _ _ k3⟩
        · rw [if_neg hb] at h7 ⊢
          exact hq _ _ h7
theorem rx_new {rd : Addr} {H H1 H' : Hp} (nr : H rd = none) (e : ∀ b o, H b = some o → H1 b = some o) (r : RX rd H1 H') : ExT H H' := fun b o z h => r b o (ne_of_none h nr) z (e b o h)
/-- what is new, is kept -/
theorem ex_made {x dx : Addr} {a b : HO} {H : Hp} (nx : H x = none) (nd : H dx = none) : Ex H (upd (upd H dx a) x b) := fun c o h => by
  rw [upd_ne (ne_of_none h nx), upd_ne (ne_of_none h nd)]
  exact h
def spPaG (K : PySem.W.Frag) (Ts : TbS) (CB : Addr) (f : List Str → Option Nat) : Sp := fun vs H Q E => ∃ (p : Addr) (v : V) (d : PyData), vs = [v] ∧ Dq K p H v d ∧ TBs Ts H ∧
  (∀ x, d = .str x → x.length ≤ 1000000 ∧ WsOk (Txt.split x " ") ∧ (∀ i, f (Txt.split x " ") = some i → ∀ H', ExT H H' → TBs Ts H' → Er CB (.int (i : Nat)) H' E) ∧ (f (Txt.split x " ") = none → ∀ z H', ExT H H' → TBs Ts H' → Q z H')) ∧
  (isStrD d = false → ∀ H', ExT H H' → TBs Ts H' → Er CB (.int 0) H' E)
theorem ok_parse_term (T : Txt K mg) (tb_are_figures : GxR.TabB base mg T.c_are_figures T.P_are_figures) : FnOk P w K mg base (L2.CX P w) 113 T.d_parse_term.a T.d_parse_term.fd ["text"] (spPaG K (tts T) T.E_BadText.C badT) := by
  refine T.d_parse_term.F.okX sc_parse_term (fun vs H Q E h => ?_) (fun cdv A outer s H vs Q E hr h => ?_)
  · obtain ⟨p, v, d, rfl, _⟩ := h
    rfl
  · obtain ⟨p, v, d, rfl, hd, ht, k1, k0⟩ := h
    refine ⟨_, (pss_cons (ps_set (i := 1) sc_parse_term.nd rfl (Or.inl rfl) (pe_make (T.K_Reader.maker T.d_Reader___init__.me) (ok_Reader___init__ T) (hr.mono (by decide)) (by rfl) T.K_Reader.g T.d_Reader___init__.b .nil (passes_call (takes_of rfl rfl rfl rfl) fun _ _ _ _ h => h) (pa_cons (pv 0) pa_nil)))
      (pss_cons (ps_set (i := 2) sc_parse_term.nd rfl (Or.inl rfl) (pe_meth0 (pv 1) T.K_Reader.cl T.d_Reader_read_whole_term.me (ok_Reader_read_whole_term T tb_are_figures) (hr.mono (by first | decide | omega)) T.d_Reader_read_whole_term.b .nil (passes_call (takes_of rfl rfl rfl rfl) fun _ _ _ _ h => h)))
      (pss_cons (ps_expr (pe_meth0 (pv 1) T.K_Reader.cl T.d_Reader_finish.me (ok_Reader_finish T) (hr.mono (by first | decide | omega)) T.d_Reader_finish.b .nil (passes_call (takes_of rfl rfl rfl rfl) fun _ _ _ _ h => h)))
      (pss_one (ps_ret (pv 2)))))), ?_⟩
    refine n_seq ?_
    refine ⟨_, rfl, fun rd dx nr nd ndr => ?_⟩
    have x1 := ex_made (a := .own rd) (b := .ins T.K_Reader.C dx []) nr nd
    have hi : (upd (upd H dx (.own rd)) rd (.ins T.K_Reader.C dx [])) rd = some (.ins T.K_Reader.C dx []) := upd_same
    have ht1 := ht.ex x1
    have hd1 := Dq.ex x1 _ _ hd
    generalize upd (upd H dx (.own rd)) rd (.ins T.K_Reader.C dx []) = H1 at x1 hi ht1 hd1
    refine ⟨rd, dx, p, v, d, rfl, hi, hd1, fun x hx => ?_, fun z H2 e2 => k0 z H2 (Ex.t (x1.trans e2)) (ht1.ex e2)⟩
    obtain ⟨xl, wo, kb, kg⟩ := k1 x hx
    refine ⟨xl, fun lw H2 r2 hR2 t2 => ⟨rfl, ?_⟩⟩
    generalize Txt.split x " " = ws at wo kb kg hR2
    have tb2 := t2 _ ht1
    refine n_seq ?_
    refine ⟨_, rfl, rd, dx, _, rfl, hR2.i, rd_whole, ?_⟩
    refine ⟨rd, dx, lw, ws, 0, 0, 0, 0, rfl, hR2, Nat.zero_le _, wo, by decide, tb2, ?_⟩
    unfold badT at kb kg
    cases hq : rdW ws 0 0 0 with
    | bad i =>
      rw [hq] at kb
      exact fun H3 r3 t3 => kb i rfl H3 (rx_new nr x1 (r2.trans r3)) t3
    | ok a s t p' =>
      rw [hq] at kb kg
      intro z H3 r3 hR3 t3
      refine n_seq ?_
      refine ⟨_, rfl, rd, dx, _, rfl, hR3.i, rd_finish, ?_⟩
      refine ⟨rd, dx, lw, ws, _, _, _, _, rfl, hR3, fun hl H4 e4 => ?_, fun hl H4 e4 => ?_⟩
      · exact ⟨_, rfl, kg (if_neg (by omega)) z H4 (rx_new nr x1 (r2.trans (r3.trans (Ex.rx e4)))) (t3.ex e4)⟩
      · exact kb a (if_pos hl) H4 (rx_new nr x1 (r2.trans (r3.trans (Ex.rx e4)))) (t3.ex e4)
theorem ok_parse_mix (T : Txt K mg) (tb_are_figures : GxR.TabB base mg T.c_are_figures T.P_are_figures) : FnOk P w K mg base (L2.CX P w) 115 T.d_parse_mix.a T.d_parse_mix.fd ["text"] (spPaG K (tts T) T.E_BadText.C badM) := by
  refine T.d_parse_mix.F.okX sc_parse_mix (fun vs H Q E h => ?_) (fun cdv A outer s H vs Q E hr h => ?_)
  · obtain ⟨p, v, d, rfl, _⟩ := h
    rfl
  · obtain ⟨p, v, d, rfl, hd, ht, k1, k0⟩ := h
    refine ⟨_, (pss_cons (ps_set (i := 1) sc_parse_mix.nd rfl (Or.inl rfl) (pe_make (T.K_Reader.maker T.d_Reader___init__.me) (ok_Reader___init__ T) (hr.mono (by decide)) (by rfl) T.K_Reader.g T.d_Reader___init__.b .nil (passes_call (takes_of rfl rfl rfl rfl) fun _ _ _ _ h => h) (pa_cons (pv 0) pa_nil)))
      (pss_cons (ps_set (i := 2) sc_parse_mix.nd rfl (Or.inl rfl) (pe_meth0 (pv 1) T.K_Reader.cl T.d_Reader_read_mix.me (ok_Reader_read_mix T tb_are_figures) (hr.mono (by first | decide | omega)) T.d_Reader_read_mix.b .nil (passes_call (takes_of rfl rfl rfl rfl) fun _ _ _ _ h => h)))
      (pss_cons (ps_expr (pe_meth0 (pv 1) T.K_Reader.cl T.d_Reader_finish.me (ok_Reader_finish T) (hr.mono (by first | decide | omega)) T.d_Reader_finish.b .nil (passes_call (takes_of rfl rfl rfl rfl) fun _ _ _ _ h => h)))
      (pss_one (ps_ret (pv 2)))))), ?_⟩
    refine n_seq ?_
    refine ⟨_, rfl, fun rd dx nr nd ndr => ?_⟩
    have x1 := ex_made (a := .own rd) (b := .ins T.K_Reader.C dx []) nr nd
    have hi : (upd (upd H dx (.own rd)) rd (.ins T.K_Reader.C dx [])) rd = some (.ins T.K_Reader.C dx []) := upd_same
    have ht1 := ht.ex x1
    have hd1 := Dq.ex x1 _ _ hd
    generalize upd (upd H dx (.own rd)) rd (.ins T.K_Reader.C dx []) = H1 at x1 hi ht1 hd1
    refine ⟨rd, dx, p, v, d, rfl, hi, hd1, fun x hx => ?_, fun z H2 e2 => k0 z H2 (Ex.t (x1.trans e2)) (ht1.ex e2)⟩
    obtain ⟨xl, wo, kb, kg⟩ := k1 x hx
    refine ⟨xl, fun lw H2 r2 hR2 t2 => ⟨rfl, ?_⟩⟩
    generalize Txt.split x " " = ws at wo kb kg hR2
    have tb2 := t2 _ ht1
    refine n_seq ?_
    refine ⟨_, rfl, rd, dx, _, rfl, hR2.i, rd_mix, ?_⟩
    refine ⟨rd, dx, lw, ws, rfl, hR2, wo, tb2, ?_⟩
    unfold badM at kb kg
    cases hq : rdMix ws with
    | bad i =>
      rw [hq] at kb
      exact fun H3 r3 t3 => kb i rfl H3 (rx_new nr x1 (r2.trans r3)) t3
    | ok a s t p' =>
      rw [hq] at kb kg
      intro z H3 r3 hR3 t3
      refine n_seq ?_
      refine ⟨_, rfl, rd, dx, _, rfl, hR3.i, rd_finish, ?_⟩
      refine ⟨rd, dx, lw, ws, _, _, _, _, rfl, hR3, fun hl H4 e4 => ?_, fun hl H4 e4 => ?_⟩
      · exact ⟨_, rfl, kg (if_neg (by omega)) z H4 (rx_new nr x1 (r2.trans (r3.trans (Ex.rx e4)))) (t3.ex e4)⟩
      · exact kb a (if_pos hl) H4 (rx_new nr x1 (r2.trans (r3.trans (Ex.rx e4)))) (t3.ex e4)
end
/-! ### the law's own test of numbers -/
theorem join_mk : ∀ (ps : List (List Nat)) (p : List Nat), Str.join "/" ((p :: ps).map mkS) = mkS (p ++ joinL ps)
  | [], p => by
    show mkS p = _
    rw [show joinL [] = [] from rfl, List.append_nil]
  | q :: ps, p => by
    show mkS p ++ "/" ++ Str.join "/" ((q :: ps).map mkS) = _
    rw [join_mk ps q]
    refine TL.ext_tl ?_
    rw [TL.tl_append, TL.tl_append, tl_mk, tl_mk, tl_mk, show TL.tl (Str.ofString "/") = [47] by decide +kernel]
    show _ = p ++ ((47 :: q) ++ joinL ps)
    simp
theorem cut_tail (x : Str) : cutS x (some 1) none = mkS (TL.tl x).tail := by
  refine TL.ext_tl ?_
  rw [tl_mk]
  have h := TL.len_tl x
  have e : (cutS x (some 1) none).cps.toList = ((TL.tl x).drop (HT.sIx x.length 0 (some 1))).take (HT.sIx x.length x.length none - HT.sIx x.length 0 (some 1)) := by
    show (((x.cps.toList.drop _).take _).toArray).toList = _
    simp
  show (cutS x (some 1) none).cps.toList = _
  rw [e, HT.sIx_none, show HT.sIx x.length 0 (some 1) = min 1 x.length from HT.sIx_nat x.length 0 1, h]
  cases hl : TL.tl x with
  | nil => simp
  | cons c r => simp
theorem cut_neg (x : Str) : decide (V.str (cutS x none (some 1)) = V.str "-") = negW x := by
  have h := TL.len_tl x
  have e : TL.tl (cutS x none (some 1)) = (TL.tl x).take 1 := by
    have e0 : (cutS x none (some 1)).cps.toList = ((TL.tl x).drop (HT.sIx x.length 0 none)).take (HT.sIx x.length x.length (some 1) - HT.sIx x.length 0 none) := by
      show (((x.cps.toList.drop _).take _).toArray).toList = _
      simp
    show (cutS x none (some 1)).cps.toList = _
    rw [e0, HT.sIx_none, show HT.sIx x.length x.length (some 1) = min 1 x.length from HT.sIx_nat x.length x.length 1, h]
    cases hl : TL.tl x with
    | nil => simp
    | cons c r => simp
  unfold negW
  rw [Bool.eq_iff_iff, decide_eq_true_iff, decide_eq_true_iff]
  constructor
  · intro z
    injection z with z
    rw [z, show TL.tl (Str.ofString "-") = [45] by decide +kernel] at e
    cases hl : TL.tl x with
    | nil => rw [hl] at e; simp at e
    | cons c r =>
      rw [hl] at e
      simp at e
      rw [← e]
      rfl
  · intro z
    congr 1
    refine TL.ext_tl ?_
    rw [e, show TL.tl (Str.ofString "-") = [45] by decide +kernel]
    cases hl : TL.tl x with
    | nil => rw [hl] at z; cases z
    | cons c r =>
      rw [hl] at z
      obtain rfl : c = 45 := by simpa using z
      rfl
def pcs (w : Str) : List (List Nat) := (cut47 (bodyW w)).1 :: restW w
theorem split_w (w : Str) : Txt.split (mkS (bodyW w)) "/" = (pcs w).map mkS := by
  have e := cutL_eq (bodyW w)
  have f := cutL_free (bodyW w)
  have j := join_mk (restW w) (cut47 (bodyW w)).1
  have e2 : (cut47 (bodyW w)).1 ++ joinL (restW w) = bodyW w := e.symm
  rw [e2] at j
  rw [← j]
  have := TL.split_join (y := ("/" : Str)) (s := 47) (S := []) (parts := (pcs w).map mkS) (by decide +kernel) (by decide +kernel) (by simp [pcs]) (fun p hp => by
    obtain ⟨l, hl, rfl⟩ := List.mem_map.mp hp
    rw [tl_mk]
    rcases List.mem_cons.mp hl with rfl | hl
    · exact f.1
    · exact f.2 l hl)
  rw [TL.join_eq] at this
  exact this
theorem pcs_len {x : Str} {b : Nat} {q : List Nat} (h : x.length ≤ b) (m : q ∈ pcs x) : (mkS q).length ≤ b := by
  have e := congrArg List.length (cutL_eq (bodyW x))
  have lb : (bodyW x).length ≤ x.length := by
    rw [TL.len_tl]
    unfold bodyW
    by_cases c : negW x = true
    · rw [if_pos c]
      simp
    · rw [if_neg c]
      exact Nat.le_refl _
  rw [List.length_append] at e
  rw [mk_len]
  have jl : ∀ (ps : List (List Nat)) (q : List Nat), q ∈ ps → q.length ≤ (joinL ps).length := by
    intro ps
    induction ps with
    | nil => intro q h; cases h
    | cons p ps ih =>
      intro q h
      have e : joinL (p :: ps) = (47 :: p) ++ joinL ps := rfl
      rw [e, List.length_append, List.length_cons]
      rcases List.mem_cons.mp h with rfl | h
      · omega
      · have := ih q h
        omega
  rcases List.mem_cons.mp m with rfl | m
  · omega
  · have := jl _ _ m
    have e2 : (joinL (restW x)).length = (joinL (cut47 (bodyW x)).2).length := rfl
    omega
theorem pcs_so {x : Str} {q : List Nat} (h : PyData.strOk x = true) (m : q ∈ pcs x) : ∀ c ∈ q, c < 0x110000 := by
  have h' := so_all.mp h
  have hb : ∀ c ∈ bodyW x, c < 0x110000 := fun c hc => by
    unfold bodyW at hc
    by_cases d : negW x = true
    · rw [if_pos d] at hc
      exact h' c (List.mem_of_mem_tail hc)
    · rw [if_neg d] at hc
      exact h' c hc
  have e := cutL_eq (bodyW x)
  intro c hc
  refine hb c ?_
  rw [e]
  rcases List.mem_cons.mp m with rfl | m
  · exact List.mem_append_left _ hc
  · exact List.mem_append_right _ (List.mem_flatMap.mpr ⟨q, m, List.mem_cons_of_mem _ hc⟩)
/-- a piece that is no figures: the word is no number -/
theorem num_off {x : Str} {q : List Nat} (m : q ∈ pcs x) (h : figB (mkS q) = false) : numB x = false := by
  unfold numB
  rcases List.mem_cons.mp m with e | m
  · have : fstW x = mkS q := by rw [e]; rfl
    rw [this, h]
    rfl
  · cases hr : restW x with
    | nil => rw [hr] at m; cases m
    | cons p ps =>
      cases ps with
      | nil =>
        rw [hr] at m
        rw [List.mem_singleton.mp m] at h
        dsimp only
        rw [h, Bool.false_and, Bool.false_and, Bool.and_false]
      | cons p2 ps => dsimp only; rw [Bool.and_false]
theorem dV {a c : Nat} : decide (V.int ((a : Nat) : Int) = V.int ((c : Nat) : Int)) = decide (a = c) := by
  rw [Bool.eq_iff_iff, decide_eq_true_iff, decide_eq_true_iff]
  exact ⟨fun z => by injection z with z; omega, fun z => by rw [z]⟩
theorem dlt2 {a : Nat} : decide ((2 : Int) < ((a : Nat) : Int)) = decide (2 < a) := by
  rw [Bool.eq_iff_iff, decide_eq_true_iff, decide_eq_true_iff]
  omega
theorem dlt2' {a : Nat} : decide (((a : Nat) : Int) < (2 : Int)) = decide (a < 2) := by
  rw [Bool.eq_iff_iff, decide_eq_true_iff, decide_eq_true_iff]
  omega
theorem cutN : ∀ l, (cut47 l).2.length ≤ l.length
  | [] => Nat.le_refl _
  | c :: r => by
    have := cutN r
    unfold cut47
    by_cases h : c = 47
    · rw [if_pos h]
      simp only [List.length_cons]
      omega
    · rw [if_neg h]
      simp only [List.length_cons]
      omega
theorem pcs_many {x : Str} {b : Nat} (h : x.length ≤ b) : (pcs x).length ≤ b + 1 := by
  have h1 := cutN (bodyW x)
  have lb : (bodyW x).length ≤ x.length := by
    rw [TL.len_tl]
    unfold bodyW
    by_cases c : negW x = true
    · rw [if_pos c]
      simp
    · rw [if_neg c]
      exact Nat.le_refl _
  unfold pcs restW
  rw [List.length_cons]
  omega
theorem eqv_low {n m : Nat} (h : 0 < m) : PyData.eqv (frd (Rat.divInt (n : Int) (m : Int))) (.tuple [.int (n : Nat), .int (m : Nat)]) = decide (Nat.gcd n m = 1) := by
  have lo : Nat.gcd n m = 1 → (Rat.divInt (n : Int) (m : Int)).num = n ∧ ((Rat.divInt (n : Int) (m : Int)).den : Int) = m := fun g => divInt_low (n := (n : Int)) (m := (m : Int)) (by omega) (by simpa using g)
  generalize Rat.divInt (n : Int) (m : Int) = q at lo
  rw [Bool.eq_iff_iff, decide_eq_true_iff]
  constructor
  · intro z
    simp [frd, PyData.eqv, PyData.eqvAll] at z
    have r := q.reduced
    rw [z.1] at r
    have : q.den = m := by omega
    rw [this] at r
    simpa using r
  · intro g
    obtain ⟨h1, h2⟩ := lo g
    simp [frd, PyData.eqv, PyData.eqvAll, h1, h2]
/-- the model, by the numbers that stand there -/
theorem num_by {x : Str} {n m : Nat} (en : fstW x = numS n) (n12 : n < 10 ^ 12) (m12 : m < 10 ^ 12) (mone : restW x = [] → m = 1) (mtwo : ∀ q ps, restW x = q :: ps → mkS q = numS m) (hall : ∀ p ∈ pcs x, figB (mkS p) = true) :
    numB x = (!(negW x && decide (n = 0)) && (decide ((pcs x).length ≤ 2) && ((decide ((pcs x).length = 1) || decide (2 ≤ m)) && decide (Nat.gcd n m = 1)))) := by
  have ff : figB (fstW x) = true := hall _ List.mem_cons_self
  have z0 : decide (numS n = "0") = decide (n = 0) := by
    rw [Bool.eq_iff_iff, decide_eq_true_iff, decide_eq_true_iff]
    exact ⟨fun z => numS_eq.mp (z.trans numS_lit0.symm), fun z => by rw [z]; exact numS_lit0⟩
  have z1 : decide (numS m = "1") = decide (m = 1) := by
    rw [Bool.eq_iff_iff, decide_eq_true_iff, decide_eq_true_iff]
    exact ⟨fun z => numS_eq.mp (z.trans numS_lit1.symm), fun z => by rw [z]; exact numS_lit1⟩
  have vn : valS (fstW x) = (n : Int) := by
    unfold valS
    rw [en, val_num n12]
    rfl
  have tn : (topW x).natAbs = n := by
    unfold topW
    rw [vn]
    by_cases c : negW x = true
    · rw [if_pos c]
      omega
    · rw [if_neg c]
      omega
  unfold numB
  rw [ff, en, z0, Bool.true_and]
  congr 1
  unfold pcs
  cases hr : restW x with
  | nil =>
    rw [mone hr]
    simp
  | cons q ps =>
    have eq := mtwo q ps hr
    cases ps with
    | nil =>
      have fq : figB (mkS q) = true := hall q (by unfold pcs; rw [hr]; simp)
      have vm : valS (mkS q) = (m : Int) := by
        unfold valS
        rw [eq, val_num m12]
        rfl
      dsimp only
      rw [fq, vm, eq, z1]
      have fb : frB (.tuple [.int (topW x), .int (m : Int)]) = (decide (0 < m) && decide (Nat.gcd n m = 1)) := by
        show (decide (0 < (m : Int)) && decide (Nat.gcd (topW x).natAbs (m : Int).natAbs = 1)) = _
        rw [tn, Int.natAbs_natCast]
        congr 1
        rw [Bool.eq_iff_iff, decide_eq_true_iff, decide_eq_true_iff]
        omega
      rw [fb]
      have d2 : decide (2 ≤ m) = (!decide (m = 1) && decide (0 < m)) := by
        rw [Bool.eq_iff_iff, Bool.and_eq_true, decide_eq_true_iff, Bool.not_eq_true', decide_eq_false_iff_not, decide_eq_true_iff]
        omega
      rw [d2]
      simp only [List.length_cons, List.length_nil]
      cases decide (m = 1) <;> cases decide (0 < m) <;> rfl
    | cons q2 ps =>
      dsimp only
      simp
theorem pos_by {x : Str} {n : Nat} (en : fstW x = numS n) : posW x = (numB x && (!negW x && !decide (n = 0))) := by
  unfold posW
  have z0 : decide (numS n = "0") = decide (n = 0) := by
    rw [Bool.eq_iff_iff, decide_eq_true_iff, decide_eq_true_iff]
    exact ⟨fun z => numS_eq.mp (z.trans numS_lit0.symm), fun z => by rw [z]; exact numS_lit0⟩
  rw [en, z0]
theorem pos_bad {x : Str} {n m : Nat} {b : Bool} (en : fstW x = numS n) (hz : numB x = (!(negW x && decide (n = 0)) && (decide ((pcs x).length ≤ 2) && ((decide ((pcs x).length = 1) || decide (2 ≤ m)) && decide (Nat.gcd n m = 1))))) (m12 : m < 10 ^ 12) (hm : (pcs x).length = 1 → m = 1)
    (z : (decide (2 < (pcs x).length) || ((decide ((pcs x).length = 2) && decide (m < 2)) || ((decide (n = 0) && (b || negW x)) || (b && negW x)))) = true) : (if b = true then posW x else numB x) = false := by
  rw [pos_by en, hz]
  generalize (pcs x).length = L at z hm
  have d1 : decide (L ≤ 2) = !decide (2 < L) := by
    rw [Bool.eq_iff_iff, decide_eq_true_iff, Bool.not_eq_true', decide_eq_false_iff_not]
    omega
  have d2 : decide (2 ≤ m) = !decide (m < 2) := by
    rw [Bool.eq_iff_iff, decide_eq_true_iff, Bool.not_eq_true', decide_eq_false_iff_not]
    omega
  have d3 : (decide (L = 2) && decide (L = 1)) = false := by
    rw [Bool.and_eq_false_iff, decide_eq_false_iff_not, decide_eq_false_iff_not]
    omega
  rw [d1, d2]
  revert z d3
  generalize decide (2 < L) = c1
  generalize decide (L = 2) = c2
  generalize decide (L = 1) = c3
  generalize decide (m < 2) = c4
  generalize decide (n = 0) = c5
  generalize decide (Nat.gcd n m = 1) = c6
  generalize negW x = c7
  intro d3 z
  cases b <;> cases c1 <;> cases c2 <;> cases c3 <;> cases c4 <;> cases c5 <;> cases c7 <;> first | rfl | (cases c6 <;> rfl) | (exact absurd z (by decide)) | (exact absurd d3 (by decide))
theorem pos_m {x : Str} {n m : Nat} {b : Bool} (h1 : 1 ≤ (pcs x).length) (hm : (pcs x).length = 1 → m = 1)
    (z : (decide (2 < (pcs x).length) || ((decide ((pcs x).length = 2) && decide (m < 2)) || ((decide (n = 0) && (b || negW x)) || (b && negW x)))) = false) : 0 < m := by
  rw [Bool.or_eq_false_iff, Bool.or_eq_false_iff, Bool.and_eq_false_iff, decide_eq_false_iff_not, decide_eq_false_iff_not, decide_eq_false_iff_not] at z
  rcases Nat.lt_or_ge (pcs x).length 2 with h | h
  · have := hm (by omega)
    omega
  · rcases z.2.1 with y | y
    · omega
    · omega
theorem pos_good {x : Str} {n m : Nat} {b : Bool} (en : fstW x = numS n) (hz : numB x = (!(negW x && decide (n = 0)) && (decide ((pcs x).length ≤ 2) && ((decide ((pcs x).length = 1) || decide (2 ≤ m)) && decide (Nat.gcd n m = 1))))) (h1 : 1 ≤ (pcs x).length) (hm : (pcs x).length = 1 → m = 1)
    (z : (decide (2 < (pcs x).length) || ((decide ((pcs x).length = 2) && decide (m < 2)) || ((decide (n = 0) && (b || negW x)) || (b && negW x)))) = false) : (if b = true then posW x else numB x) = decide (Nat.gcd n m = 1) := by
  rw [pos_by en, hz]
  generalize (pcs x).length = L at z hm h1
  have d1 : decide (L ≤ 2) = !decide (2 < L) := by
    rw [Bool.eq_iff_iff, decide_eq_true_iff, Bool.not_eq_true', decide_eq_false_iff_not]
    omega
  have d2 : decide (2 ≤ m) = !decide (m < 2) := by
    rw [Bool.eq_iff_iff, decide_eq_true_iff, Bool.not_eq_true', decide_eq_false_iff_not]
    omega
  have d3 : (decide (2 < L) || (decide (L = 2) || decide (L = 1))) = true := by
    rw [Bool.or_eq_true, Bool.or_eq_true, decide_eq_true_iff, decide_eq_true_iff, decide_eq_true_iff]
    omega
  rw [d1, d2]
  revert z d3
  generalize decide (2 < L) = c1
  generalize decide (L = 2) = c2
  generalize decide (L = 1) = c3
  generalize decide (m < 2) = c4
  generalize decide (n = 0) = c5
  generalize decide (Nat.gcd n m = 1) = c6
  generalize negW x = c7
  intro d3 z
  cases b <;> cases c1 <;> cases c2 <;> cases c3 <;> cases c4 <;> cases c5 <;> cases c7 <;> first | rfl | (cases c6 <;> rfl) | (exact absurd z (by decide)) | (exact absurd d3 (by decide))
def badL (q : List Nat) : List Nat := q.filter fun c => !digB c
theorem badL_nil (q : List Nat) : (!PyData.eqv (.list ((badL q).map fun c => .str ⟨#[c]⟩)) (.list [])) = !(q.all digB) := by
  congr 1
  by_cases h : q.all digB = true
  · have : badL q = [] := by
      unfold badL
      rw [List.filter_eq_nil_iff]
      intro c hc
      rw [List.all_eq_true.mp h c hc]
      decide
    rw [this, h]
    rfl
  · have hb : badL q ≠ [] := fun z => h (by
      unfold badL at z
      rw [List.filter_eq_nil_iff] at z
      rw [List.all_eq_true]
      intro c hc
      have := z c hc
      simpa using this)
    have h' : q.all digB = false := by simpa using h
    rw [h']
    cases hl : badL q with
    | nil => exact absurd hl hb
    | cons c r => simp [PyData.eqv, PyData.eqvAll]
theorem s_par {i j : Nat} {ta tb : TE} {D : Ends} {σ : L2.St} {H : Hp} (h : ta σ H (fun v H1 => tb σ H1 fun w H2 => ∃ v' w', [v, w] = [v', w'] ∧ D.nx ((σ.set i (some v')).set j (some w')) H2)) : tPar i j (tCons ta (tCons tb tNil)) D σ H := h
section
variable {K : PySem.W.Frag} {σ : L2.St} {H : Hp} {i j : Nat} {q : List Nat}
theorem dpA_sgn {K : PySem.W.Frag} {H : Hp} : ∀ cs : List Nat, DpAll K H (cs.map sgnV) (cs.map fun c => PyData.str ⟨#[c]⟩)
  | [] => .nil
  | c :: cs => .cons (.str _) (dpA_sgn cs)
theorem shp_sgn {cs : List Nat} (h : ∀ c ∈ cs, c < 0x110000) : SeqAt.shaped (.list (cs.map fun c => PyData.str ⟨#[c]⟩)) = true := by
  have a : ∀ cs : List Nat, (∀ c ∈ cs, c < 0x110000) → PyData.canLayAll0 (cs.map fun c => PyData.str ⟨#[c]⟩) = true := by
    intro cs
    induction cs with
    | nil => intro _; rfl
    | cons c cs ih =>
      intro h
      have hc := h c List.mem_cons_self
      have : PyData.strOk ⟨#[c]⟩ = true := so_all.mpr fun d hd => by
        have : d = c := by simpa using hd
        rw [this]
        exact hc
      simp only [List.map_cons, PyData.canLayAll0, PyData.canLay0, this, Bool.true_and]
      exact ih fun d hd => h d (List.mem_cons_of_mem _ hd)
  have b : ∀ cs : List Nat, PyData.depthAll (cs.map fun c => PyData.str ⟨#[c]⟩) = 0 := by
    intro cs
    induction cs with
    | nil => rfl
    | cons c cs ih =>
      simp only [List.map_cons, PyData.depthAll, ih]
      rfl
  unfold SeqAt.shaped
  simp only [PyData.canLay0, PyData.depth, a cs h, b cs]
  rfl
theorem ex_updN {H G : Hp} {D : Addr} {o : HO} (e : Ex H G) (n : H D = none) : Ex H (upd G D o) := fun b u h => by
  rw [upd_ne (ne_of_none h n)]
  exact e b u h
theorem et_piece (h : σ[i]? = some (some (.str (mkS q)))) (l : (mkS q).length ≤ 1000) (so : ∀ c ∈ q, c < 0x110000) (hj : j < σ.length) :
    EvT (tOr (tNot (tTest (tChain (rI0 fun i j => V.bl (decide (i ≤ j))) (rI0 fun i j => V.bl (decide (i ≤ j))) (tC (V.int 1)) (tCB (fun xs H Q => ∃ z, xs = [V.str z] ∧ z.length ≤ sizeLine ∧ Q (V.int z.length) H) (tCons (tVar i) tNil)) (tC (V.int 12)))))
      (tOr (tTest (tOp (rNeD K) (tLc (iList K (tCB rListS (tCons (tVar i) tNil))) (gName j) (tTest (tOp (fun x y H Q => ∃ c z, x = V.str { cps := #[c] } ∧ y = V.str z ∧ Q (V.bl !decide (c ∈ z.cps.toList)) H) (tVar j) (tC (V.str (Str.ofString "0123456789"))))) (tVar j) [j]) (tLst tNil)))
        (tAnd (tTest (tOp rEq (tOp rIxS (tVar i) (tC (V.int 0))) (tC (V.str (Str.ofString "0"))))) (tTest (tOp (rI0 fun i j => V.bl (decide (j < i))) (tCB (fun xs H Q => ∃ z, xs = [V.str z] ∧ z.length ≤ sizeLine ∧ Q (V.int z.length) H) (tCons (tVar i) tNil)) (tC (V.int 1))))))) σ H (!figB (mkS q)) := by
  have ch : ∀ {G : Hp}, Ev (tChain (rI0 fun i j => V.bl (decide (i ≤ j))) (rI0 fun i j => V.bl (decide (i ≤ j))) (tC (V.int 1)) (tCB (fun xs H Q => ∃ z, xs = [V.str z] ∧ z.length ≤ sizeLine ∧ Q (V.int z.length) H) (tCons (tVar i) tNil)) (tC (V.int 12))) σ G (.bl (decide (1 ≤ (mkS q).length) && decide ((mkS q).length ≤ 12))) := fun {G} => by
    refine ev_chain ev_c (ev_lenS h l) ev_c (fun H => ?_) fun H => ?_
    · have := rv_I0 (H := H) (g := fun i j => .bl (decide (i ≤ j))) (i := ((1 : Nat) : Int)) (j := ((mkS q).length : Int))
      rw [le_dec] at this
      exact this
    · have := rv_I0 (H := H) (g := fun i j => .bl (decide (i ≤ j))) (i := ((mkS q).length : Int)) (j := ((12 : Nat) : Int))
      rw [le_dec] at this
      exact this
  have lc : ∀ {G : Hp}, EvT (tTest (tOp (rNeD K) (tLc (iList K (tCB rListS (tCons (tVar i) tNil))) (gName j) (tTest (tOp (fun x y H Q => ∃ c z, x = V.str { cps := #[c] } ∧ y = V.str z ∧ Q (V.bl !decide (c ∈ z.cps.toList)) H) (tVar j) (tC (V.str (Str.ofString "0123456789"))))) (tVar j) [j]) (tLst tNil))) σ G (!(q.all digB)) := fun {G} H1 e1 Q k => by
    rw [← badL_nil] at k
    refine ⟨_, h, mkS q, rfl, Nat.le_trans l (by decide), fun ls nls => ?_⟩
    have e0 : (mkS q).cps.toList = q := tl_mk q
    rw [e0]
    have x1 := Ex.new (o := .lst (q.map sgnV)) nls
    have hls : (upd H1 ls (.lst (q.map sgnV))) ls = some (.lst (q.map sgnV)) := upd_same
    generalize upd H1 ls (.lst (q.map sgnV)) = H2 at x1 hls
    refine ⟨ls, rfl, ⟨_, SqL.of hls⟩, fun D nD => ?_⟩
    have lq : q.length ≤ 1000 := by rw [mk_len] at l; exact l
    have xD := Ex.new (o := .lst []) nD
    refine lc_it (walk_list (K := K) (a := ls) (xs := q.map sgnV)) (fun m G => Ex H2 G ∧ G D = some (.lst ((badL (q.take m)).map sgnV))) ⟨xD, upd_same⟩ (fun m G _ hG => SqL.of (hG.1 _ _ hls)) ?_ ?_
    · rintro m x G G' hm ⟨ex, hz⟩ ⟨rfl, hx⟩
      obtain ⟨c, hc, rfl⟩ : ∃ c, q[m]? = some c ∧ x = sgnV c := by
        rw [List.getElem?_map] at hx
        obtain ⟨c, h1, h2⟩ := Option.map_eq_some_iff.mp hx
        exact ⟨c, h1, h2.symm⟩
      have lk : ((wipe σ [j]).set j (some (sgnV c)))[j]? = some (some (sgnV c)) := by
        show ((σ.set j none).set j (some (sgnV c)))[j]? = _
        simp [hj]
      refine n_name ⟨?_, ?_⟩
      · show ((σ.set j none).set j (some (sgnV c))).set j none = σ.set j none
        rw [List.set_set, List.set_set]
      refine ⟨_, lk, c, _, rfl, rfl, _, rfl, ?_⟩
      have tk : q.take (m + 1) = q.take m ++ [c] := by
        rw [List.take_succ, hc]
        rfl
      have bl : badL (q.take (m + 1)) = badL (q.take m) ++ (if digB c = true then [] else [c]) := by
        rw [tk]
        unfold badL
        rw [List.filter_append]
        congr 1
        by_cases d : digB c = true
        · simp [d]
        · simp [d]
      by_cases d : digB c = true
      · refine ifF' (show (!digB c) = false by rw [d]; rfl) ⟨ex, ?_⟩
        rw [bl, if_pos d, List.append_nil]
        exact hz
      · refine ifT' (show (!digB c) = true by simpa using d) ?_
        refine ⟨_, lk, _, hz, ?_, ex_updN ex nD, ?_⟩
        · have : (badL (q.take m)).length ≤ q.length := by
            unfold badL
            exact Nat.le_trans (List.length_filter_le _ _) (by rw [List.length_take]; omega)
          rw [List.length_map]
          exact small1000 (by omega)
        · rw [upd_same, bl, if_neg d, List.map_append]
          rfl
    · rintro G ⟨ex, hz⟩
      rw [List.length_map, List.take_length] at hz
      refine ⟨by show 0 ≤ sizeLine; decide, fun l2 fl2 => ?_⟩
      have x2 := Ex.new (o := .lst []) fl2
      refine ⟨.list ((badL q).map fun c => .str ⟨#[c]⟩), .list [], .lst (SqL.of (x2 _ _ hz)) (dpA_sgn _), .lst (SqL.of upd_same) .nil, shp_sgn fun c hc => so c (List.mem_filter.mp hc).1, by decide, _, rfl, ?_⟩
      exact k _ (x1.trans (ex.trans x2))
  cases q with
  | nil =>
    exact et_is (et_or (a := true) (b := false) (et_is (et_not (et_test ch)) rfl) fun z => nomatch z) (by rfl)
  | cons c r =>
    have ix : ∀ {G : Hp}, EvT (tTest (tOp rEq (tOp rIxS (tVar i) (tC (V.int 0))) (tC (V.str (Str.ofString "0"))))) σ G (decide (c = 48)) := fun {G} => et_is (et_test (ev_op (ev_ix0 h l rfl) ev_c (rv_eq rfl))) one_zero
    have gt : ∀ {G : Hp}, EvT (tTest (tOp (rI0 fun i j => V.bl (decide (j < i))) (tCB (fun xs H Q => ∃ z, xs = [V.str z] ∧ z.length ≤ sizeLine ∧ Q (V.int z.length) H) (tCons (tVar i) tNil)) (tC (V.int 1)))) σ G (decide ((1 : Int) < ((mkS (c :: r)).length : Nat))) := fun {G} => et_test (ev_op (ev_lenS h l) (ev_c (v := .int 1)) (rv_I0 (g := fun i j => .bl (decide (j < i)))))
    refine et_is (et_or (et_not (et_test ch)) fun _ => et_or lc fun _ => et_and ix fun _ => gt) ?_
    unfold figB
    have e0 : (mkS (c :: r)).cps.toList = c :: r := tl_mk _
    have e1 : (mkS (c :: r)).cps[0]? = some c := by
      rw [← Array.getElem?_toList, e0]
      rfl
    rw [e0, e1]
    have e2 : decide ((1 : Int) < ((mkS (c :: r)).length : Nat)) = decide (1 < (mkS (c :: r)).length) := by
      rw [Bool.eq_iff_iff, decide_eq_true_iff, decide_eq_true_iff]
      omega
    have e3 : decide (some c = some 48) = decide (c = 48) := by
      rw [Bool.eq_iff_iff, decide_eq_true_iff, decide_eq_true_iff]
      exact ⟨fun z => Option.some.inj z, fun z => by rw [z]⟩
    have e4 : c = 48 → (mkS (c :: r) = "0" ↔ ¬ 1 < (mkS (c :: r)).length) := fun c48 => by
      subst c48
      rw [mk_len]
      constructor
      · intro z
        have := congrArg TL.tl z
        rw [tl_mk, show TL.tl (Str.ofString "0") = [48] by decide +kernel] at this
        rw [this]
        decide
      · intro z
        have : r = [] := List.eq_nil_of_length_eq_zero (by rw [List.length_cons] at z; omega)
        subst this
        refine TL.ext_tl ?_
        rw [tl_mk]
        decide +kernel
    rw [e2, e3]
    generalize hd : (c :: r).all digB = dd
    generalize (mkS (c :: r)).length = n at e4
    by_cases c48 : c = 48
    · have e5 := e4 c48
      by_cases z : mkS (c :: r) = "0"
      · have := e5.mp z
        rw [decide_eq_true c48, decide_eq_true z, decide_eq_false this]
        cases dd <;> cases decide (1 ≤ n) <;> cases decide (n ≤ 12) <;> rfl
      · have : 1 < n := by
          rcases Nat.lt_or_ge 1 n with y | y
          · exact y
          · exact absurd (e5.mpr (by omega)) z
        rw [decide_eq_true c48, decide_eq_false z, decide_eq_true this]
        cases dd <;> cases decide (1 ≤ n) <;> cases decide (n ≤ 12) <;> rfl
    · rw [decide_eq_false c48]
      cases dd <;> cases decide (1 ≤ n) <;> cases decide (n ≤ 12) <;> cases decide (1 < n) <;> cases decide (mkS (c :: r) = "0") <;> rfl
end
section
variable {P : Program} {w : World} {K : PySem.W.Frag} {mg : Str → Option Value} {base : Heap}
def spNumL : Sp := fun vs H Q _ => ∃ (x : Str) (b : Bool), vs = [.str x, .bl b] ∧ x.length ≤ 1000 ∧ PyData.strOk x = true ∧ ∀ H', Ex H H' → Q (.bl (if b then posW x else numB x)) H'
theorem ok__law_is_number (T : Txt K mg) : FnOk P w K mg base CX0 2 T.d__law_is_number.a T.d__law_is_number.fd ["_law_word_here", "_law_is_weight"] spNumL := by
  refine T.d__law_is_number.F.ok sc__law_is_number (fun vs H Q E h => ?_) (fun cdv A outer s H vs Q E hr h => ?_)
  · obtain ⟨x, b, rfl, _⟩ := h
    rfl
  · obtain ⟨x, b, rfl, xl, so, kk⟩ := h
    refine ⟨_, (pss_cons (ps_set (i := 2) sc__law_is_number.nd rfl (Or.inl rfl) (pe_ifExp (pt_cmpR op_eq (pe_slice sl_str (pv 0) po_none (po_some pe_int)) pe_str (nomark _)) (pe_split (pe_slice sl_str (pv 0) (po_some pe_int) po_none) pe_str) (pe_split (pv 0) pe_str)))
      (pss_cons (ps_for PassesOwn.never rfl (pi_list (pv 2)) (pg_name (i := 3) sc__law_is_number.nd rfl (Or.inl rfl)) (pss_one (ps_if (PW.pt (pw_or (pt_not (pt_chain op_le op_le pe_int (pe_callB call_len_str (by rfl) T.n_len (by decide +kernel) (pa_cons (pv 3) pa_nil)) pe_int)) (pw_or (pt_cmpR (op_neD hr.units) (pe_lc (own := [("_law_sign", 6)]) (g := gName 6) rfl sc__law_is_number.nd (pi_list (pe_callTy (call_list_txt rfl) (by rfl) T.n_list (by decide +kernel) (pa_cons (pv 3) pa_nil))) (blkOk_by (own := [("_law_sign", 6)]) (N := n__law_is_number) (sc := defScope s__law_is_number) (by decide +kernel)) (fun _ _ _ _ _ => pg_name (i := 6) sc__law_is_number.nd rfl (Or.inl rfl)) (fun _ _ _ _ _ => pts_one (pt_cmpR op_notIn_sign (pv 6) pe_str (by rfl))) (fun _ _ _ _ _ => (pv 6))) (pe_lst pa_nil) (nomark _)) (pw_or1 (PW.pt (pw_and (pt_cmpR op_eq (pe_ix ix_str (pv 3) pe_int (fun _ _ => rfl)) pe_str (nomark _)) (pw_and1 (pt_cmpR op_gt (pe_callB call_len_str (by rfl) T.n_len (by decide +kernel) (pa_cons (pv 3) pa_nil)) pe_int (nomark _))))))))) (pss_one (ps_ret pe_bl)) pss_nil)))
      (pss_cons (ps_par (i := 4) (j := 5) (by rfl) sc__law_is_number.nd rfl rfl (by decide) rfl rfl (pa_cons (pe_callTy call_int_str (by rfl) T.n_int (by decide +kernel) (pa_cons (pe_ix ix_list (pv 2) pe_int (fun _ _ => rfl)) pa_nil)) (pa_cons (pe_callTy call_int_str (by rfl) T.n_int (by decide +kernel) (pa_cons (pe_ix ix_list (pe_op op_cat (pv 2) (pe_lst (pa_cons pe_str pa_nil))) pe_int (fun _ _ => rfl)) pa_nil)) pa_nil)) (by rfl))
      (pss_cons (ps_if (PW.pt (pw_or (pt_cmpR op_gt (pe_callB call_len_seq (by rfl) T.n_len (by decide +kernel) (pa_cons (pv 2) pa_nil)) pe_int (nomark _)) (pw_or (PW.pt (pw_and (pt_cmpR op_eq (pe_callB call_len_seq (by rfl) T.n_len (by decide +kernel) (pa_cons (pv 2) pa_nil)) pe_int (nomark _)) (pw_and1 (pt_cmpR op_lt (pv 5) pe_int (nomark _))))) (pw_or (PW.pt (pw_and (pt_cmpR op_eq (pv 4) pe_int (nomark _)) (pw_and1 (PW.pt (pw_or (pt_val (pv 1)) (pw_or1 (pt_cmpR op_eq (pe_slice sl_str (pv 0) po_none (po_some pe_int)) pe_str (nomark _)))))))) (pw_or1 (PW.pt (pw_and (pt_val (pv 1)) (pw_and1 (pt_cmpR op_eq (pe_slice sl_str (pv 0) po_none (po_some pe_int)) pe_str (nomark _)))))))))) (pss_one (ps_ret pe_bl)) pss_nil)
      (pss_one (ps_ret (pe_cmpR (op_eqD hr.units) (pe_call (ok__law_frac T) (hr.mono (by decide)) (by rfl) T.d__law_frac.g T.d__law_frac.F.kp T.d__law_frac.b .nil pass0 (pa_cons (pv 4) (pa_cons (pv 5) pa_nil))) (pe_tup (pa_cons (pv 4) (pa_cons (pv 5) pa_nil))) (nomark _)))))))), ?_⟩
    refine n_seq ?_
    have sl01 : ∀ {G : Hp} {σ : L2.St}, σ[0]? = some (some (.str x)) → Ev (tSl rSlS (tVar 0) tNoPart (tPart (tC (.int 1)))) σ G (.str (cutS x none (some 1))) := fun h0 H1 e Q k => ⟨_, h0, 1, rfl, x, rfl, Nat.le_trans xl (by decide), k H1 (Ex.refl _)⟩
    have neg : ∀ {G : Hp} {σ : L2.St}, σ[0]? = some (some (.str x)) → EvT (tTest (tOp rEq (tSl rSlS (tVar 0) tNoPart (tPart (tC (.int 1)))) (tC (.str "-")))) σ G (negW x) := fun h0 => et_is (et_test (ev_op (sl01 h0) ev_c (rv_eq rfl))) (cut_neg x)
    refine s_asgP (P := fun v G => ∃ l, v = .ref l ∧ G l = some (.lst (((pcs x).map mkS).map V.str))) (ep_if (neg rfl) (fun c H1 e Q k => ?_) fun c H1 e Q k => ?_) fun v H1 e hv => ?_
    · refine ⟨_, rfl, 1, rfl, x, rfl, Nat.le_trans xl (by decide), ⟨_, rfl⟩, _, _, rfl, rfl, by decide +kernel, ?_, fun l nl => ?_⟩
      · have := cutS_length x (some 1) none
        show _ ≤ 16777216
        omega
      · have eb : cutS x (some 1) none = mkS (bodyW x) := by
          rw [cut_tail]
          unfold bodyW
          rw [if_pos c]
        rw [eb, split_w]
        exact k (.ref l) _ (Ex.new nl) ⟨l, rfl, upd_same⟩
    · refine ⟨_, rfl, ⟨_, rfl⟩, _, _, rfl, rfl, by decide +kernel, (by show _ ≤ 16777216; omega), fun l nl => ?_⟩
      have eb : x = mkS (bodyW x) := by
        unfold bodyW
        rw [if_neg (by rw [c]; decide), mk_tl]
      have es := split_w x
      rw [← eb] at es
      rw [es]
      exact k (.ref l) _ (Ex.new nl) ⟨l, rfl, upd_same⟩
    obtain ⟨l, rfl, hl⟩ := hv
    dsimp only
    refine n_seq ?_
    refine ⟨_, rfl, l, rfl, ⟨_, SqL.of hl⟩, ?_⟩
    refine for_list (K := K) (a := l) (xs := ((pcs x).map mkS).map V.str) (fun i σ G => Ex H1 G ∧ (∀ p ∈ (pcs x).take i, figB (mkS p) = true) ∧ ∃ y3 y6 : Option V, σ = [some (.str x), some (.bl b), some (.ref l), y3, none, none, y6]) ⟨Ex.refl H1, by simp, none, none, rfl⟩ (fun i σ G _ h => SqL.of (h.1 _ _ hl)) ?_ ?_
    · rintro i v σ G hx ⟨ex, hf, y3, y6, rfl⟩
      obtain ⟨q, hq, rfl⟩ : ∃ q, (pcs x)[i]? = some q ∧ v = .str (mkS q) := by
        rw [List.map_map, List.getElem?_map] at hx
        obtain ⟨q, h1, h2⟩ := Option.map_eq_some_iff.mp hx
        exact ⟨q, h1, h2.symm⟩
      have ql := pcs_len xl (List.mem_of_getElem? hq)
      have qs := pcs_so so (List.mem_of_getElem? hq)
      refine n_name ?_
      dsimp only
      refine s_if (b := !figB (mkS q)) (et_is (et_piece (K := K) (i := 3) (j := 6) rfl ql qs (by show 6 < 7; decide)) ?_) (fun z G1 e1 => ?_) fun z G1 e1 => ?_
      · rfl
      · have z' : figB (mkS q) = false := by simpa using z
        have nb := num_off (List.mem_of_getElem? hq) z'
        have pb : posW x = false := by
          unfold posW
          rw [nb, Bool.false_and]
        have kF := kk G1 (e.trans (ex.trans e1))
        rw [nb, pb, ite_self] at kF
        exact kF
      · have z' : figB (mkS q) = true := by simpa using z
        refine n_next ?_
        refine ⟨ex.trans e1, fun p hp => ?_, _, _, rfl⟩
        rw [List.take_succ, hq] at hp
        rcases List.mem_append.mp hp with hp | hp
        · exact hf p hp
        · obtain rfl : p = q := by simpa using hp
          exact z'
    · rintro σ G ⟨ex, hf, y3, y6, rfl⟩
      have hlG := ex _ _ hl
      have hall : ∀ p ∈ pcs x, figB (mkS p) = true := by
        rw [List.length_map, List.length_map, List.take_length] at hf
        exact hf
      have ff : figB (fstW x) = true := hall _ List.mem_cons_self
      obtain ⟨n, n12, en⟩ := fig_num' ff
      obtain ⟨m, m12, mone, mtwo⟩ : ∃ m : Nat, m < 10 ^ 12 ∧ (restW x = [] → m = 1) ∧ (∀ q ps, restW x = q :: ps → mkS q = numS m) := by
        cases hr : restW x with
        | nil => exact ⟨1, by decide, (fun _ => rfl), (fun _ _ z => by cases z)⟩
        | cons q ps =>
          obtain ⟨m, m12, em⟩ := fig_num' (hall q (by unfold pcs; rw [hr]; simp))
          exact ⟨m, m12, (fun z => by cases z), (fun q' ps' z => by cases z; exact em)⟩
      have e0 : (((pcs x).map mkS).map V.str)[0]? = some (.str (numS n)) := by
        show some (V.str (mkS (cut47 (bodyW x)).1)) = _
        rw [← en]
        rfl
      have e1 : (((pcs x).map mkS).map V.str ++ [V.str "1"])[1]? = some (.str (numS m)) := by
        unfold pcs
        cases hr : restW x with
        | nil =>
          rw [mone hr, numS_lit1]
          rfl
        | cons q ps =>
          rw [← mtwo q ps hr]
          rfl
      dsimp only
      refine n_seq ?_
      refine s_par ?_
      refine ⟨_, rfl, l, _, 0, _, rfl, rfl, SqL.of hlG, atI_nat (j := 0) e0, numS n, (n : Int), rfl, val_num n12, Nat.le_trans (numS_len (k := 12) (by decide) n12) (by decide), ?_⟩
      refine ⟨_, rfl, by show 1 ≤ sizeLine; decide, fun l1 fl1 => ?_⟩
      have x1 := Ex.new (o := .lst [V.str "1"]) fl1
      have pl : (pcs x).length ≤ 1001 := pcs_many xl
      refine ⟨l, l1, _, _, rfl, rfl, x1 _ _ hlG, upd_same, ?_, fun l2 fl2 => ?_⟩
      · show _ ≤ 16777216
        simp only [List.length_map, List.length_cons, List.length_nil]
        omega
      have x2 := Ex.new (o := .lst (((pcs x).map mkS).map V.str ++ [V.str "1"])) fl2
      refine ⟨l2, _, 1, _, rfl, rfl, SqL.of upd_same, atI_nat (j := 1) e1, numS m, (m : Int), rfl, val_num m12, Nat.le_trans (numS_len (k := 12) (by decide) m12) (by decide), _, _, rfl, ?_⟩
      have ex2 := e.trans (ex.trans (x1.trans x2))
      have hl2 := (x1.trans x2) _ _ hlG
      generalize upd (upd G l1 (.lst [V.str "1"])) l2 (.lst (((pcs x).map mkS).map V.str ++ [V.str "1"])) = G2 at ex2 hl2
      dsimp only
      refine n_seq ?_
      have lenP : ∀ {G3 : Hp} {σ : L2.St}, Ex G2 G3 → σ[2]? = some (some (.ref l)) → Ev (tCB (fun xs H_1 Q => ∃ p ys, xs = [V.ref p] ∧ (SqL K H_1 p ys ∨ SqT K H_1 p ys) ∧ Q (V.int ys.length) H_1) (tCons (tVar 2) tNil)) σ G3 (.int ((pcs x).length : Nat)) := fun e3 h0 H1 e Q k => ⟨_, h0, l, _, rfl, .inl (SqL.of ((e3.trans e) _ _ hl2)), by
        rw [List.length_map, List.length_map]
        exact k H1 (Ex.refl _)⟩
      have hm0 : (pcs x).length = 1 → m = 1 := fun z => mone (by
        unfold pcs at z
        rw [List.length_cons] at z
        exact List.eq_nil_of_length_eq_zero (by omega))
      have hl1 : 1 ≤ (pcs x).length := by
        unfold pcs
        rw [List.length_cons]
        omega
      have hm1 : 1 ≤ m ∨ restW x ≠ [] := by
        cases hr : restW x with
        | nil => exact .inl (Nat.le_of_eq (mone hr).symm)
        | cons q ps => exact .inr (by simp)
      refine s_if (b := decide (2 < (pcs x).length) || ((decide ((pcs x).length = 2) && decide (m < 2)) || ((decide (n = 0) && (b || negW x)) || (b && negW x)))) (et_is (et_or (et_test (ev_op (lenP (Ex.refl _) rfl) ev_c rv_I0)) fun _ => et_or (et_and (et_test (ev_op (lenP (Ex.refl _) rfl) ev_c (rv_eq rfl))) fun _ => et_test (ev_op (ev_var rfl) ev_c rv_I0)) fun _ => et_or (et_and (et_test (ev_op (ev_var rfl) ev_c (rv_eq rfl))) fun _ => et_or (et_B (ev_var rfl)) fun _ => neg rfl) fun _ => et_and (et_B (ev_var rfl)) fun _ => neg rfl) ?_) (fun z G3 e3 => ?_) fun z G3 e3 => ?_
      · rw [show decide (V.int (((pcs x).length : Nat) : Int) = V.int 2) = decide ((pcs x).length = 2) from dV (c := 2), show decide (V.int ((n : Nat) : Int) = V.int 0) = decide (n = 0) from dV (c := 0), dlt2, dlt2']
      · have := kk G3 (ex2.trans e3)
        have hz := num_by en n12 m12 mone mtwo hall
        have hb : (if b = true then posW x else numB x) = false := pos_bad en hz m12 hm0 z
        rw [hb] at this
        exact this
      · refine n_next ?_
        have mp : 0 < m := pos_m hl1 hm0 z
        have p40 : (10 : Nat) ^ 12 < 2 ^ 40 := by decide
        refine ⟨_, rfl, _, rfl, (n : Int), (m : Int), 40, rfl, by omega, by omega, by omega, by decide, fun zf G4 e4 fr => ?_⟩
        refine ⟨_, rfl, _, rfl, by show 2 ≤ sizeLine; decide, fun t ft => ?_⟩
        have xt := Ex.new (o := .tup [V.int (n : Nat), V.int (m : Nat)]) ft
        obtain ⟨af, rfl, hSf, _⟩ := id fr
        refine ⟨frd (Rat.divInt (n : Int) (m : Int)), .tuple [.int (n : Nat), .int (m : Nat)], .tup (ex_t xt hSf) (.cons (.int _) (.cons (.int _) .nil)), .tup (SqT.of upd_same) (.cons (.int _) (.cons (.int _) .nil)), by rfl, by rfl, ?_⟩
        rw [eqv_low mp]
        have := kk _ ((ex2.trans e3).trans (e4.trans xt))
        rw [pos_good en (num_by en n12 m12 mone mtwo hall) hl1 hm0 z] at this
        exact this
end
/-! ### the law's own reading -/
def wordAt (ws : List Str) (a : Nat) : Str := (ws[a]?).getD ""
theorem wordAt_some {ws : List Str} {a : Nat} {x : Str} (h : ws[a]? = some x) : wordAt ws a = x := by
  unfold wordAt
  rw [h]
  rfl
theorem wordAt_none {ws : List Str} {a : Nat} (h : ws[a]? = none) : wordAt ws a = "" := by
  unfold wordAt
  rw [h]
  rfl
theorem wordAt_iff {ws : List Str} {a : Nat} {x : Str} (n : x ≠ "") : wordAt ws a = x ↔ ws[a]? = some x := by
  constructor
  · intro h
    cases hx : ws[a]? with
    | none => rw [wordAt_none hx] at h; exact absurd h.symm n
    | some y => rw [wordAt_some hx] at h; rw [h]
  · exact wordAt_some
/-- words as the law makes them -/
def WsL (ws : List Str) : Prop := WsOk ws ∧ ∀ x ∈ ws, PyData.strOk x = true
theorem wordAt_ok {ws : List Str} (h : WsL ws) (a : Nat) : (wordAt ws a).length ≤ 1000 ∧ PyData.strOk (wordAt ws a) = true := by
  cases hx : ws[a]? with
  | none =>
    rw [wordAt_none hx]
    exact ⟨by decide +kernel, so_str _⟩
  | some y =>
    rw [wordAt_some hx]
    exact ⟨h.1.2 y (List.mem_of_getElem? hx), h.2 y (List.mem_of_getElem? hx)⟩
theorem num_empty : numB "" = false := by decide +kernel
theorem pos_empty : posW "" = false := by decide +kernel
theorem numAt_w (ws : List Str) (a : Nat) : numAt ws a = numB (wordAt ws a) := by
  unfold numAt
  cases hx : ws[a]? with
  | none => rw [wordAt_none hx, num_empty]
  | some y => rw [wordAt_some hx]
theorem posAt_w (ws : List Str) (a : Nat) : posAt ws a = posW (wordAt ws a) := by
  unfold posAt
  cases hx : ws[a]? with
  | none => rw [wordAt_none hx, pos_empty]
  | some y => rw [wordAt_some hx]
/-- the room that's left: three numbers -/
def roomV (s p t : Nat) (o : Nat) : List V := [.int (16 - (s : Int)), .int (97 + (o : Int) - (p : Int)), .int (49 + (o : Int) - (t : Int))]
/-- what the law's reading gives -/
def LR (o : Nat) (H : Hp) (v : V) : Rd → Prop
  | .bad i => ∃ l, v = .ref l ∧ H l = some (.lst [.int (i : Nat)])
  | .ok a s t p => ∃ l r, v = .ref l ∧ H l = some (.lst [.int (a : Nat), .ref r]) ∧ H r = some (.lst (roomV s (p + 1) (t + 1) o))
theorem LR.ex {o : Nat} {H H' : Hp} {v : V} {r : Rd} (e : Ex H H') (h : LR o H v r) : LR o H' v r := by
  cases r with
  | bad i =>
    obtain ⟨l, rfl, h⟩ := h
    exact ⟨l, rfl, e _ _ h⟩
  | ok a s t p =>
    obtain ⟨l, r, rfl, h, h'⟩ := h
    exact ⟨l, r, rfl, e _ _ h, e _ _ h'⟩
def rdL (k : Nat) (ws : List Str) (a s t p : Nat) : Rd := if p ≤ 96 then rdT k ws a s t p else .bad a
def spLrd (k : Nat) : Sp := fun vs H Q _ => ∃ (lw r : Addr) (ws : List Str) (a s t p o : Nat), vs = [.ref lw, .int (a : Nat), .ref r, .int (o : Nat)] ∧ H lw = some (.lst (ws.map V.str)) ∧ WsL ws ∧ H r = some (.lst (roomV s p t o)) ∧ s ≤ 16 ∧ t ≤ 48 ∧ p ≤ 97 ∧ a ≤ ws.length ∧ 49 ≤ t + k ∧
  ∀ v H', Ex H H' → LR o H' v (rdL k ws a s t p) → Q v H'
section
variable {P : Program} {w : World} {K : PySem.W.Frag} {mg : Str → Option Value} {base : Heap}
def spWd : Sp := fun vs H Q _ => ∃ (lw : Addr) (ws : List Str) (a : Nat), vs = [.ref lw, .int (a : Nat)] ∧ H lw = some (.lst (ws.map V.str)) ∧ ∀ H', Ex H H' → Q (.str (wordAt ws a)) H'
theorem ok__law_word (T : Txt K mg) : FnOk P w K mg base CX0 1 T.d__law_word.a T.d__law_word.fd ["_law_words_here", "_law_at"] spWd := by
  refine T.d__law_word.F.ok sc__law_word (fun vs H Q E h => ?_) (fun cdv A outer s H vs Q E hr h => ?_)
  · obtain ⟨lw, ws, a, rfl, _⟩ := h
    rfl
  · obtain ⟨lw, ws, a, rfl, hl, kk⟩ := h
    refine ⟨_, (pss_one (ps_ret (pe_ifExp (pt_cmpR op_lt (pv 1) (pe_callB call_len_seq (by rfl) T.n_len (by decide +kernel) (pa_cons (pv 0) pa_nil)) (nomark _)) (pe_ix ix_list (pv 0) (pv 1) (fun _ _ => rfl)) pe_str))), ?_⟩
    have lenE : ∀ {G : Hp}, Ex H G → Ev (tCB (fun xs H_1 Q => ∃ p ys, xs = [V.ref p] ∧ (SqL K H_1 p ys ∨ SqT K H_1 p ys) ∧ Q (V.int ys.length) H_1) (tCons (tVar 0) tNil)) (start n__law_word [.ref lw, .int (a : Nat)]) G (.int (ws.length : Nat)) := fun e3 H1 e Q k => ⟨_, rfl, lw, _, rfl, .inl (SqL.of ((e3.trans e) _ _ hl)), by
      rw [List.length_map]
      exact k H1 (Ex.refl _)⟩
    by_cases c : a < ws.length
    · have hx : ws[a]? = some ws[a] := List.getElem?_eq_getElem c
      refine (ep_if (P := fun v G => v = .str (wordAt ws a)) (c := true) (et_is (et_test (ev_op (ev_var rfl) (lenE (Ex.refl _)) rv_I0)) (decide_eq_true (by omega))) (fun _ H1 e Q k => ?_) fun z => nomatch z) H (Ex.refl _) _ fun v H1 e1 hv => ?_
      · refine ⟨_, rfl, _, rfl, lw, _, _, _, rfl, rfl, SqL.of (e _ _ hl), atI_nat (by rw [List.getElem?_map, hx]; rfl), k _ H1 (Ex.refl _) ?_⟩
        rw [wordAt_some hx]
      · subst hv
        exact kk H1 e1
    · have hx : ws[a]? = none := List.getElem?_eq_none (by omega)
      refine (ep_if (P := fun v G => v = .str (wordAt ws a)) (c := false) (et_is (et_test (ev_op (ev_var rfl) (lenE (Ex.refl _)) rv_I0)) (decide_eq_false (by omega))) (fun z => nomatch z) fun _ => ?_) H (Ex.refl _) _ fun v H1 e1 hv => ?_
      · rw [wordAt_none hx]
        exact ep_ev ev_c
      · subst hv
        exact kk H1 e1
/-- _law_word(words, at) -/
theorem ev_wd {lw : Addr} {ws : List Str} {a : Nat} {ta tb : TE} {σ : L2.St} {H : Hp} {E : XK} (ha : Ev ta σ H (.ref lw)) (hb : Ev tb σ H (.int (a : Nat))) (hl : H lw = some (.lst (ws.map V.str))) : Ev (tCall spWd [] E (tCons ta (tCons tb tNil))) σ H (.str (wordAt ws a)) := fun H1 e Q k =>
  ha H1 e _ fun H2 e2 => hb H2 (e.trans e2) _ fun H3 e3 => ⟨lw, ws, a, rfl, ((e.trans e2).trans e3) _ _ hl, fun H4 e4 => k H4 ((e2.trans e3).trans e4)⟩
end
/-! ### a lambda is made: only its maker's table changes -/
section
variable {X : Cx} {pins : List (Addr × Obj)} {σ : L2.St} {H : Hp} {s : Shared}
theorem lam_mk {c P : Addr} {q : Str} {params : Arguments} {body : Expr} {scope : Scope} {pos : Pos} {E Q : Value → Shared → Prop}
    (I : Inv X pins σ H s) (TB : LamX.TabB X.base X.mg c P) (hq : X.env.qual ++ "<lambda>" = q) (hco : X.env.code = .ref c) (hT : LamX.TabS H P q) (h0 : defaultsOf params X.env = ([], []))
    (hfr : ∀ y ∈ scope.names, y.2 = .free → ∃ c, X.env.cells.lookup y.1 = some c)
    (k : ∀ (f d : Addr) (pm ctv : Value) (G : Hp) (t : Shared), Inv X pins σ G t → ExB P H G → LamX.TabS G P q → t.heap.get? f = some (PySem.W.kla_obj "<lambda>" q params body scope (cloFrom X.env.cells scope.names []) pm d ctv) →
      G f = none → f ∉ frs X.stack → G d = some (LamX.CodeO d q) → Q (.ref f) t) :
    wpAny (model X.prog X.w) X.A (eval (.Lambda params body scope pos) X.env) Q E s := by
  obtain ⟨ps, tabP, tri, named⟩ := hT
  have builtP : s.heap.BuiltinsAt X.mg P := TB.bm.keeps I.bk
  have objP : s.heap.get? P = some { cls := .none, data := .fields ps } := I.hok P _ tabP
  have stackN : ∀ f, s.heap.objs.size ≤ f → f ∉ frs X.stack := by
    intro f hf z
    rcases List.mem_cons.mp (I.stkSub _ z) with e | e
    · have below := I.lt
      rw [← e] at below
      exact absurd (Nat.lt_of_lt_of_le below hf) (Nat.lt_irrefl f)
    · exact I.nofs hf e
  have hg := I.mod.glob.keeps I.bk
  have hC := TB.code.keeps I.bk
  refine PySem.W.kla_eval h0 ?_
  rw [hq]
  cases among : codeAmong pos ps.toList with
  | some cv =>
    obtain ⟨d, rfl, codeD⟩ := named pos cv among
    refine PySem.W.kla_makeFunctionHit (ps := ps) (mg := X.mg) (P := P) (c := c) (closure_ok hfr) I.ok.glob hg hco hC objP tri among builtP ?_
    intro ctv h' tk grow big
    refine k h'.objs.size d ((X.mg "__name__").getD .none) ctv H _ (I.kept fun b o e => ?_) (ExB.refl P H) ⟨ps, tabP, tri, named⟩ (Heap.get?_push_size _ rfl) (I.hok.fresh big) (stackN _ big) codeD
    exact Heap.get?_push_of_some _ (grow b o e)
  | none =>
    refine PySem.W.kla_makeFunction (ps := ps) (mg := X.mg) (P := P) (c := c) (closure_ok hfr) I.ok.glob hg hco hC objP tri among TB.gP builtP ?_
    intro d ctv h' tk grow low high record table
    obtain ⟨d2, od, fields, t, ed, hod, hdat, hname⟩ := record
    cases ed
    have more : s.heap.objs.size ≤ h'.objs.size := Nat.le_of_lt (Nat.lt_of_le_of_lt low high)
    have newD : H d = none := I.hok.fresh low
    have pushed : ∀ b o, b ≠ P → s.heap.get? b = some o → (h'.push (PySem.W.kla_obj "<lambda>" q params body scope (cloFrom X.env.cells scope.names []) ((X.mg "__name__").getD .none) d ctv)).get? b = some o :=
      fun b o nb e => Heap.get?_push_of_some _ (grow b o nb e)
    have J := LamX.inv_table (q := q) (t' := tk) (more := #[rawInt pos.line, rawInt pos.col, .ref d]) I tabP pushed (Heap.get?_push_of_some _ table) low ⟨od, fields, t, Heap.get?_push_of_some _ hod, hdat, hname⟩
    have keepB : ExB P H (upd (upd H P (.tbl (ps ++ #[rawInt pos.line, rawInt pos.col, .ref d]))) d (LamX.CodeO d q)) := fun b o nb e => by
      rw [upd_ne (ne_of_none e newD), upd_ne nb]
      exact e
    have asList : (ps ++ #[rawInt pos.line, rawInt pos.col, .ref d]).toList = ps.toList ++ [rawInt pos.line, rawInt pos.col, .ref d] := by simp
    have nDs : h'.objs.size ≠ d := Nat.ne_of_gt high
    have nPs : h'.objs.size ≠ P := Nat.ne_of_gt (Nat.lt_of_lt_of_le (Heap.lt_size objP) more)
    refine k h'.objs.size d ((X.mg "__name__").getD .none) ctv _ _ J keepB ⟨_, by rw [upd_ne (ne_of_none tabP newD), upd_same], ?_, fun pos' cv hcv => ?_⟩ (Heap.get?_push_size _ rfl) ?_ (stackN _ more) upd_same
    · rw [asList]
      exact PySem.TriplesOk_snoc _ _ _ _ tri
    · rw [asList] at hcv
      rcases LamX.among_app _ tri hcv with old | rfl
      · obtain ⟨e, k1, k2⟩ := named pos' cv old
        refine ⟨e, k1, keepB _ _ ?_ k2⟩
        rintro rfl
        rw [tabP] at k2
        exact LamX.codeO_ne ps (Option.some.inj k2).symm
      · exact ⟨d, rfl, upd_same⟩
    · rw [upd_ne nDs, upd_ne nPs]
      exact I.hok.fresh more
/-- the def that calls what it got: a lambda, told at the very slots of the call -/
theorem act_at {q : Str} {Ng : List Str} {qg : Str} {sg : Scope} {g f d : Addr} {cdg pm ctv : Value} {params : Arguments} {body : Expr} {scope : Scope} {k : Nat} {a : Str} {pn : List (Addr × Obj)} {xe : Value → Shared → Prop} {W : WX} {tb : XK → TE} {p1 p2 : Pos}
    (hq : X.env.qual ++ "<lambda>" = q) (I : Inv X pins σ H s) (L : LamX.LamS X.env.scope scope) (lam : s.heap.get? f = some (PySem.W.kla_obj "<lambda>" q params body scope (cloFrom X.env.cells scope.names []) pm d ctv)) (newF : H f = none) (offF : f ∉ frs X.stack)
    (bind : bindArgs (PySem.W.kla_fn "<lambda>" q params body scope (cloFrom X.env.cells scope.names []) pm (.ref d) ctv) ⟨[], []⟩ = pure [])
    (tk : Takes ((cxOf C8.CX0 X.prog X.w X.K X.mg X.base Ng qg sg g cdg X.A X.stack s H C8.E0).tr pn xe) W) (hr : Room (k + 1) (X.A.deeper (envOfC qg sg s.heap.objs.size g cdg)))
    (inner : ∀ (A : Around) (outer : List Env) (s : Shared) (H : Hp) (E : XK), Room k (A.deeper (LamX.lamEnv X scope s.heap.objs.size f d)) → PE (LamX.lamCx X A outer s H E scope f d) body (tb E))
    (hN : Ng[0]? = some a) (hv : Vis sg a) (hd : (a == ("__debug__" : Str)) = false := by decide) (hcd : (a == ("__classdict__" : Str)) = false := by decide) :
    PE ((cxOf C8.CX0 X.prog X.w X.K X.mg X.base Ng qg sg g cdg X.A X.stack s H C8.E0).tr pn xe) (.Call (.Name a p1) [] [] p2)
      (fun σZ HZ Q => σZ[0]? = some (some (.ref f)) ∧ HZ d = some (LamX.CodeO d q) ∧ tb (fun cls o H' => W cls o σZ H') σ HZ Q) := by
  subst hq
  constructor
  rintro pinsZ sZ σZ HZ Q IZ ⟨slot, codeD, reads⟩
  have named := (pe_var (pos := p1) (i := 0) hN hv hd hcd).run pinsZ sZ σZ HZ (fun v G => v = .ref f ∧ G = HZ) IZ ⟨.ref f, slot, rfl, rfl⟩
  refine wpAny_Call_Name_kw (thn named ?_)
  rintro u s1 ⟨v, G, I1, ru, rfl, rfl⟩
  obtain rfl : u = Value.ref f := ru
  have lam1 := I1.base.keep f _ lam newF offF (fun z => by cases z)
  refine PySem.W.callWith_F0 ⟨_, _, _, _, lam1⟩ ?_
  obtain ⟨⟨oc, fields, t, hoc, hdat, hname⟩, _, _⟩ := I1.hok d _ codeD
  have kept : Un (frs X.stack) [] H G s.heap s1.heap := I1.base
  refine wpAny_call (codeAny_mono (R := CR (L2.CX X.prog X.w) (envOfC qg sg s.heap.objs.size g cdg :: X.stack) X.prog X.w G s1 Q (fun cls o H' => W cls o σZ H')) ?_ ?_)
  · refine PySem.W.kla_callFunE hr.depth lam1 rfl L.co L.gen rfl ⟨d, oc, fields, t, rfl, hoc, hdat, hname⟩ ?_
    refine wpAny_of_eq bind (wpAny_newFunctionEnv (fun y hy => (L.own y hy).2) (fun y hy => by cases hy) (fun h₁ hns hsb => ⟨I1.nolimit.fresh _ hsb, ?_⟩) L.kind)
    have grow : ∀ b o, s1.heap.get? b = some o → h₁.get? b = some o := by
      intro b o e
      exact hsb.extBut b o (Nat.ne_of_lt (Heap.lt_size e)) (Heap.get?_push_of_some _ e)
    have J := LamX.lam_start2 (tk := s1.toks + ([] : List (Str × Value)).length) (c' := d) (f := f) (E := fun cls o H' => W cls o σZ H') I L I1.env0 hr.hd kept hns grow
    refine PySem.W.kla_codeExpr (wpAny_mono ((inner _ _ s1 G _ (hr.deeper _)).run [] _ _ G Q J reads) ?_ fun e s' z => z)
    rintro v s' ⟨x, G', J', rv, done⟩
    exact ⟨x, G', J'.os, J'.bare, J'.base, J'.hok, rv, done⟩
  · intro r s' told
    match r, told with
    | .error e, told => exact (passAt tk σZ) pinsZ G s1 e s' I1 told
    | .ok (.ret u), told => exact I1.after told
    | .ok .next, told => exact False.elim told
    | .ok .brk, told => exact False.elim told
    | .ok .cont, told => exact False.elim told
/-- a def that calls the lambda that it got: TT, what it makes of the lambda's reading -/
def Gives (X : Cx) (Ng : List Str) (x : Str) (sg : Scope) (g : Addr) (cdg : Value) (bg : List Stmt) (a : Str) (q : Str) (TT : (XK → Hp → VK → Prop) → Hp → VK → Prop) : Prop :=
  ∀ (f d : Addr) (s : Shared) (H : Hp) (Q : VK) (tl : XK → Hp → VK → Prop),
    (∀ (W : WX) (pn : List (Addr × Obj)) (xe : Value → Shared → Prop) (p1 p2 : Pos), Takes ((cxOf C8.CX0 X.prog X.w X.K X.mg X.base Ng x sg g cdg X.A X.stack s H C8.E0).tr pn xe) W →
      PE ((cxOf C8.CX0 X.prog X.w X.K X.mg X.base Ng x sg g cdg X.A X.stack s H C8.E0).tr pn xe) (.Call (.Name a p1) [] [] p2) (fun σZ HZ Q => σZ[0]? = some (some (.ref f)) ∧ HZ d = some (LamX.CodeO d q) ∧ tl (fun cls o H' => W cls o σZ H') HZ Q)) →
    H d = some (LamX.CodeO d q) → TT tl H Q →
    ∃ t, PSs (cxOf C8.CX0 X.prog X.w X.K X.mg X.base Ng x sg g cdg X.A X.stack s H C8.E0).nox bg t ∧ t { nx := fun _ H' => Q .non H', rt := Q } (L2.start Ng [.ref f]) H
/-- x(lambda: body): what x makes of it -/
def tLamB (P : Addr) (q : Str) (TT : (XK → Hp → VK → Prop) → Hp → VK → Prop) (t : XK → TE) : TE := fun σ H Q => LamX.TabS H P q ∧ ∀ H1, ExB P H H1 → LamX.TabS H1 P q → TT (fun E H' Q' => t E σ H' Q') H1 Q
theorem pe_lamB {q x a : Str} {g c P : Addr} {fg : FuncData} {st : Stmt} {k : Nat} {Ng : List Str} {TT : (XK → Hp → VK → Prop) → Hp → VK → Prop} {params : Arguments} {body : Expr} {scope : Scope} {t : XK → TE} {p lpos pos : Pos}
    (G : Fun X.K x x st g fg) (hg : Gl X x) (hm : X.mg x = some (.ref g)) (hb : L2.Binds X.K fg [a] []) (Sg : FnScope Ng [a] (defScope st)) (hNg : Ng[0]? = some a) (hva : Vis (defScope st) a)
    (hG : ∀ cdg, Gives X Ng x (defScope st) g cdg (defBody st) a q TT)
    (TB : LamX.TabB X.base X.mg c P) (hq : X.env.qual ++ "<lambda>" = q) (hco : X.env.code = .ref c) (hr : Room (k + 2) X.A) (L : LamX.LamS X.env.scope scope) (h0 : defaultsOf params X.env = ([], []))
    (hbind : ∀ (q : Str) (cl : List (Str × Addr)) (pm cv ctv : Value), bindArgs (PySem.W.kla_fn "<lambda>" q params body scope cl pm cv ctv) ⟨[], []⟩ = pure [])
    (hbody : ∀ (A : Around) (outer : List Env) (s : Shared) (H : Hp) (E : XK) (f d : Addr), Room k (A.deeper (LamX.lamEnv X scope s.heap.objs.size f d)) → PE (LamX.lamCx X A outer s H E scope f d) body (t E))
    (hdb : (x == ("__debug__" : Str)) = false := by decide) (hd : (a == ("__debug__" : Str)) = false := by decide) (hcd : (a == ("__classdict__" : Str)) = false := by decide) :
    PE X (.Call (.Name x p) [.Lambda params body scope lpos] [] pos) (tLamB P q TT t) := by
  obtain ⟨oc, od, kV, doc, pm, an, cdv, ct, osl, rfl, lk, hcd'⟩ := G.ex
  refine ⟨fun pins s σ H Q I hh => ?_⟩
  obtain ⟨tabs, rest⟩ := hh
  refine wpAny_Call_Name_kw (ld_glob I hg hm ?_ hdb)
  refine PySem.W.callWith_K (h₀ := X.base) I.ok.mod.kin G.kp ?_ (by rfl) (by rfl)
  show wpAny _ _ (spliced ((false, eval (.Lambda params body scope lpos) X.env) :: backTo pos (starEach [] X.env))) _ _ s
  subst hq
  refine Calls.spliced_cons (lam_mk I TB rfl hco tabs h0 (L.has I.ok) ?_)
  intro f d pm' ctv H1 s1 I1 eB tab1 hf newF offF codeD
  refine Calls.spliced_nil ⟨I1.kIn, wpAny_call (codeAny_mono (LamX.run_ofS (CX := C8.CX0) (Q := Q) (E := C8.E0) (N := Ng) (ps := [a]) (us := [.ref f]) (vs := [.ref f]) lk hcd' Sg hr I1.env0 (hb s1 [.ref f] I1.kIn rfl) (.cons rfl .nil) rfl fun hr1 => ?_) fun r s2 hq => ?_)⟩
  · obtain ⟨t1, body1, reads1⟩ := hG cdv f d s1 H1 Q (fun E H' Q' => t E σ H' Q') (fun W pn xe p1 p2 tk =>
      act_at (tb := t) rfl I1 L hf newF offF (hbind _ _ _ _ _) tk hr1 (fun A outer s H E hr2 => hbody A outer s H E f d hr2) hNg hva hd hcd) codeD (rest H1 eB tab1)
    exact ⟨t1, body1.nox, reads1⟩
  · match r, hq with
    | .error _, hq => exact False.elim hq
    | .ok (.ret _), hq => exact I1.after hq
    | .ok .next, hq => exact False.elim hq
    | .ok .brk, hq => exact False.elim hq
    | .ok .cont, hq => exact False.elim hq
end
/-! ### _law_told: why a call is refused -/
def tsW (K : PySem.W.Frag) : Addr → Value → Option Addr → TS := fun a cls d => tAsg (tLstN (tCons (tXfE K a cls d "value" (tVar 2)) tNil)) (gName 1)
/-- the clauses, told at the slots -/
def hdW (K : PySem.W.Frag) (CT : Addr) : List (Value × Nat × (Addr → Value → Option Addr → TS)) :=
  [(.ref CT, 2, tsW K)]
def TWhy (K : PySem.W.Frag) (CT : Addr) : (XK → Hp → VK → Prop) → Hp → VK → Prop := fun tl H Q => ∀ (f l : Addr), H l = none → l ≠ sysModules →
  tl (fun cls o H' => wAsM K (fun _ _ _ _ => False) { nx := fun σ G => tRet (tVar 1) { nx := fun _ H' => Q .non H', rt := Q } σ G, rt := Q } (hdW K CT) cls o [some (.ref f), some (.ref l), none] H') (upd H l (.lst [])) fun _ G => tRet (tVar 1) { nx := fun _ H' => Q .non H', rt := Q } [some (.ref f), some (.ref l), none] G
theorem why_gives {X : Cx} {q : Str} {g CT : Addr} {cdg : Value} (mT : X.mg "BadText" = some (.ref CT)) :
    Gives X n__law_told "_law_told" (defScope s__law_told) g cdg (defBody s__law_told) "_law_call" q (TWhy X.K CT) := by
  intro f d s H Q tl act hc hh
  refine ⟨_, pss_cons (ps_set (i := 1) sc__law_told.nd rfl (Or.inl rfl) (pe_lstN pa_nil))
    (pss_cons (ps_try_asM (X := (cxOf C8.CX0 X.prog X.w X.K X.mg X.base n__law_told "_law_told" (defScope s__law_told) g cdg X.A X.stack s H C8.E0).nox)
      (tb := fun W D σ G => σ[0]? = some (some (.ref f)) ∧ G d = some (LamX.CodeO d q) ∧ tl (fun cls o H' => W cls o σ H') G fun _ G' => D.nx σ G')
      (l := hdW X.K CT) (Wout := fun _ _ _ _ => False) rfl rfl sc__law_told.nd LamX.takes0 (fun W pn xe tk _ => ?_)
      (HdsAs.cons (i := 2) (ts := tsW X.K) rfl rfl ⟨by rfl, by decide, .inl mT⟩ (fun a oe cls d pn hz hf => pss_one (ps_set (i := 1) sc__law_told.nd rfl (Or.inl rfl) (pe_lstN (pa_cons (pe_xfE hz hf (pv 2)) pa_nil)))) HdsAs.nil)) (pss_one (ps_ret (pv 1)))), ?_⟩
  · refine ⟨fun pins s' σ G D I hb => ?_⟩
    exact (pss_one (ps_expr (act W pn xe _ _ tk))).run pins s' σ G D I hb
  · refine n_seq ?_
    refine ⟨by show 0 ≤ sizeLine; decide, fun l fl nm => ?_⟩
    dsimp only
    refine n_seq ?_
    refine ⟨rfl, ?_, ?_⟩
    · rw [upd_ne (ne_of_none hc fl)]
      exact hc
    · exact hh f l fl nm
/-! ### repr of deeper data -/
def rReprL (K : PySem.W.Frag) : List V → Hp → VK → Prop := fun xs H Q => ∃ (x : V) (d : PyData) (p : Addr), xs = [x] ∧ Dq K p H x d ∧ d.showable = true ∧ d.depth ≤ 100 ∧ d.shown.length ≤ sizeLine ∧ Q (.str d.shown) H
section
variable {X : Cx}
theorem call_reprL (gd : X.A.guards = some []) (hu : X.A.units + 104 < cLine) : CallR X (.builtin "repr") (rReprL X.K) := by
  intro pins s σ H xs us Q I r h
  obtain ⟨x, d, p, rfl, hd, hs, hdep, hz, q⟩ := h
  cases r with
  | cons r1 r2 =>
    cases r2
    rename_i u
    obtain ⟨as, hr, nm⟩ : ∃ as, Reads s.heap u d as ∧ (d.hasDict = true → sysModules ∉ as) := by
      obtain ⟨as, hr, nm⟩ := Dq.reads I d x u hd r1
      exact ⟨as, hr, fun _ => nm⟩
    have fin : ∀ h' u' tk, (∀ b o, s.heap.get? b = some o → h'.get? b = some o) → EP X pins σ Q (.str d.shown u') { s with heap := h', toks := tk } := fun h' u' tk hk => ⟨.str d.shown, H, I.kept hk, ⟨_, rfl⟩, q⟩
    have f0 := fin s.heap s.toks (s.toks + 1) (fun _ _ z => z)
    cases hr with
    | none => exact PySem.P.repr_of_none (by simpa [PyData.shown] using f0)
    | bool b => exact PySem.P.repr_of_bool (by simpa [PyData.shown] using f0)
    | int i t => exact PySem.P.repr_of_int (by simpa [PyData.showable] using hs) (by simpa [PyData.shown] using f0)
    | str y t => exact PySem.P.repr_of_str (by simpa [PyData.shown] using f0) (by simpa [PyData.shown] using hz)
    | list h1 h2 h3 h4 => exact repr_of_reads' (.list h1 h2 h3 h4) hs nm gd (by omega) (fun _ _ z => z) (fun h' u' tk hk => fin h' u' tk hk) hz
    | tuple h1 h2 h3 h4 => exact repr_of_reads' (.tuple h1 h2 h3 h4) hs nm gd (by omega) (fun _ _ z => z) (fun h' u' tk hk => fin h' u' tk hk) hz
    | dict h1 h2 h3 h4 h5 => exact repr_of_reads' (.dict h1 h2 h3 h4 h5) hs nm gd (by omega) (fun _ _ z => z) (fun h' u' tk hk => fin h' u' tk hk) hz
end
theorem units100 {k : Nat} {A : Around} (r : Room k A) : A.units + 104 < cLine := by have := r.un; omega
/-- data that may be shown -/
structure Sh (d : PyData) : Prop where
  sh : d.showable = true
  dp : d.depth ≤ 100
  ln : d.shown.length ≤ sizeLine
theorem Nc.sh' {c e : Nat} {d : PyData} (n : Nc c e d) (hc : c ≤ 1000000) (he : e ≤ 100) : Sh d := ⟨n.sh, Nat.le_trans n.dp he, Nat.le_trans (n.len hc) (Nat.le_trans hc (by decide))⟩
section
variable {K : PySem.W.Frag} {p : Addr} {σ : L2.St} {H : Hp} {te : TE} {d : PyData}
theorem ev_reprL (h : EvD K p te σ H d) (n : Sh d) : Ev (tCB (rReprL K) (tCons te tNil)) σ H (.str d.shown) := fun H1 a Q k =>
  h H1 a _ fun v H2 e2 q => ⟨v, d, p, rfl, q, n.sh, n.dp, n.ln, k H2 e2⟩
end
theorem nca_ints : ∀ {ns : List Nat}, (∀ n ∈ ns, n < 1000) → NcA (68 * ns.length) 0 (ns.map fun (n : Nat) => PyData.int n)
  | [], _ => nca_nil
  | n :: ns, h => by
    have h1 : Nc (64 + 2) 0 (.int (n : Nat)) := nc_int (b := 64) (by
      have := h n (by simp)
      have : (2 : Nat) ^ 64 = 18446744073709551616 := by decide
      omega) (by decide) (by decide)
    have := nca_cons h1 (nca_ints (ns := ns) fun m hm => h m (by simp [hm]))
    rw [List.length_cons, show 68 * (ns.length + 1) = 64 + 2 + 2 + 68 * ns.length by omega]
    exact this
theorem shown_tup {ds : List PyData} : (PyData.tuple ds).shown ≠ "None" := fun h => by
  have e : (PyData.tuple ds).shown.cps[0]? = some 40 := by
    have e1 : (PyData.tuple ds).shown.cps = #[40] ++ ((Str.join ", " (PyData.shownAll ds)).cps ++ (Str.ofString (if (PyData.shownAll ds).length == 1 then ",)" else ")")).cps) := by
      rw [← Array.append_assoc]
      rfl
    rw [e1, Array.getElem?_append]
    rfl
  rw [h] at e
  revert e
  decide +kernel
/-! ### lists of data, changed at their end; the tape beside -/
section
variable {K : PySem.W.Frag} {p q P : Addr} {H H' : Hp}
mutual
/-- a dict's change leaves data that is elsewhere -/
theorem Dq.tkq (hp : tupd H p) (hl : ∀ xs, H p ≠ some (.lst xs)) (hk : H p ≠ some (.dK [])) (e : ExB p H H') : ∀ (d : PyData) (v : V), Dq K q H v d → Dq K q H' v d
  | _, _, .non => .non
  | _, _, .bl b => .bl b
  | _, _, .int i => .int i
  | _, _, .str x => .str x
  | _, _, .lst n m h hs => .lst n m (e _ _ (by rintro rfl; exact hl _ h) h) (DqAll.tkq hp hl hk e _ _ hs)
  | _, _, .tup h hs => .tup (sqt_tb hp e h) (DqAll.tkq hp hl hk e _ _ hs)
  | _, _, .emp h => .emp (e _ _ (by rintro rfl; exact hk h) h)
theorem DqAll.tkq (hp : tupd H p) (hl : ∀ xs, H p ≠ some (.lst xs)) (hk : H p ≠ some (.dK [])) (e : ExB p H H') : ∀ (ds : List PyData) (vs : List V), DqAll K q H vs ds → DqAll K q H' vs ds
  | _, _, .nil => .nil
  | _, _, .cons h hs => .cons (Dq.tkq hp hl hk e _ _ h) (DqAll.tkq hp hl hk e _ _ hs)
end
theorem Tape.dqq {v : V} {d : PyData} (h : Tape H p) (e : ExB p H H') (k : Dq K q H v d) : Dq K q H' v d := Dq.tkq h.tupd h.nl.1 h.nl.2 e _ _ k
theorem Tape.xt (h : Tape H p) (e : ExT H H') : Tape H' p := by
  obtain ⟨d, m, h1, r⟩ := h
  exact ⟨d, m, e.k h1, r⟩
theorem Tape.ne {a : Addr} {xs : List V} (h : Tape H p) (ha : H a = some (.lst xs)) : a ≠ p := by
  rintro rfl
  exact h.nl.1 _ ha
theorem Tape.tbs {Ts : TbS} (h : Tape H p) (e : ExB p H H') (t : TBs Ts H) : TBs Ts H' := by
  obtain ⟨d, m, h1, r⟩ := h
  exact t.keep (fun ps => by rw [h1]; exact (nofun)) (fun f => by rw [h1]; exact (nofun)) e
/-- a lambda is made -/
theorem lam_xt {qn : Str} (t : LamX.TabS H P qn) (e : ExB P H H') : ExT H H' := fun b o n h => e b o (by
  rintro rfl
  obtain ⟨ps, h1, _⟩ := t
  rw [h] at h1
  exact n ps (Option.some.inj h1)) h
theorem TBs.lam {l : List Addr} {qn : Str} (t : TBs (l, [(P, qn)]) H) (e : ExB P H H') (t' : LamX.TabS H' P qn) : TBs (l, [(P, qn)]) H' := ⟨fun a ha => by
    obtain ⟨ps, h1, h2⟩ := t.g a ha
    exact ⟨ps, e _ _ (t.ne a ha (P, qn) (by simp)).symm h1, h2⟩, fun z hz => by
    rw [List.mem_singleton.mp hz]
    exact t', t.ne⟩
end
/-! ### why: the clauses -/
section
variable {K : PySem.W.Frag} {C D CM f g : Addr} {nm nk : Str}
theorem exm_self (a : ErrX K C CM f nm) : PySem.W.exmOne K (.ref C) (.ref C) = some true := a.self1
theorem exm_off (a : ErrX K C CM f nm) (b : ErrX K D CM g nk) (h : nm ≠ nk) : PySem.W.exmOne K (.ref C) (.ref D) = some false := by
  have n := a.ne b h
  obtain ⟨cd, h1, h2, h3⟩ := a.named
  refine PySem.W.exm_ref b.ec.ex b.ec.hd b.ty ?_
  show PySem.W.mroIn K C (.ref D) = some false
  unfold PySem.W.mroIn
  rw [h1, Option.bind_some, h3]
  simp [n.symm, b.neM]
variable {mg : Str → Option Value}
theorem er_text {T : Txt K mg} {v : V} {f l : Addr} {H : Hp} {Q : VK} (kk : ∀ l2 G, Ex H G → l2 ≠ sysModules → G l2 = some (.lst [v]) → Q (.ref l2) G) :
    Er T.E_BadText.C v H (fun cls o H' => wAsM K (fun _ _ _ _ => False) { nx := fun σ G => tRet (tVar 1) { nx := fun _ H' => Q .non H', rt := Q } σ G, rt := Q } (hdW K T.E_BadText.C) cls o [some (.ref f), some (.ref l), none] H') := fun dd kn H' e hd =>
  ⟨true, exm_self T.E_BadText.x, fun _ a na => ⟨.ref a, rfl, rfl, _, dd, _, v, rfl, T.E_BadText.x.xf, T.E_BadText.x.noV, rfl, hd, rfl, by show 1 ≤ sizeLine; decide, fun l2 fl2 nm2 => ⟨.ref l2, rfl, kk l2 _ (e.trans (Ex.new fl2)) nm2 upd_same⟩⟩, fun z => by cases z⟩
end
/-! ### defs that show data, their code known; calls by names alone -/
section
variable {P : Program} {w : World} {K : PySem.W.Frag} {mg : Str → Option Value} {base : Heap}
theorem okCG {x qual : Str} {st : Stmt} {f c : Addr} {fd : FuncData} {N ps : List Str} {k : Nat} {sp : Sp} (F : Fun K x qual st f fd) (hc : fd.code = .ref c) (S : FnScope N ps (defScope st)) (len : ∀ vs H Q E, sp vs H Q E → vs.length = ps.length)
    (body : ∀ (A : Around) (outer : List Env) (s : Shared) (H : Hp) (vs : List V) (Q : VK), A.guards = some [] → Room k (A.deeper (envOfC qual (defScope st) s.heap.objs.size f (.ref c))) → sp vs H Q E0 →
      ∃ t, PSs (cxOf CX0 P w K mg base N qual (defScope st) f (.ref c) A outer s H E0).nox (defBody st) t ∧ t { nx := fun _ H' => Q .non H', rt := Q } (start N vs) H) :
    FnG P w K mg base (k + 1) f fd ps sp := by
  obtain ⟨oc, od, kV, doc, pm, an, cdv, ct, osl, rfl, lk, hcd⟩ := F.ex
  obtain rfl : cdv = .ref c := hc
  constructor
  · exact len
  intro A outer s H args us vs Q gd hr e0 hb r hsp
  have here : ∀ b o, base.get? b = some o → s.heap.get? b = some o := fun b o e => (e0.bs b o e).1
  have KX : K.In s.heap := e0.mod.kin.keeps here
  have par : ∀ y ∈ ps.zip us, (defScope st).names.lookup y.1 = some .local ∨ ((defScope st).names.lookup y.1 = some .cell ∧ ((cellsFrom (s.heap.objs.size + 1) (defScope st).names []).lookup y.1).isSome = true) := by
    rintro ⟨n, v⟩ hy
    have q := S.par n (List.of_mem_zip hy).1
    exact q.imp id fun z => ⟨z, PySem.W.cellsFrom_some _ _ _ (.inl z)⟩
  apply codeAny_call_function hr.depth (KX _ _ lk) rfl S.co S.gen rfl (PySem.W.codeRec_of KX hcd)
  apply hb
  apply wpAny_newFunctionEnv_cells S.kind par
  intro env he s1 ic
  subst he
  refine ⟨(e0.mod.nolimit.keeps here).keeps ic.toInCall.keep, codeAny_func ?_⟩
  obtain ⟨t, ht, hq⟩ := body A outer s H vs Q gd (hr.deeper _) hsp
  have I0 := inv_start (CX := CX0) (E := E0) S hr.hd e0 (len _ _ _ _ hsp) r ic
  apply wpAny_mono (ht.nox.run [] s1 (start N vs) H _ I0 hq)
  · intro fl s' hs
    match fl, hs with
    | .ret u, ⟨v, σ', H', J, rv, q⟩ => exact ⟨v, H', J.os, J.bare, J.base, J.hok, rv, q⟩
    | .next, ⟨σ', H', J, q⟩ => exact ⟨V.non, H', J.os, J.bare, J.base, J.hok, rfl, q⟩
    | .brk, ⟨_, _, _, q⟩ => exact False.elim q
    | .cont, ⟨_, _, _, q⟩ => exact False.elim q
  · intro e s' hs
    exact hs
end
section
variable {X : Cx} {CX : CXT} {k : Nat} {f : Addr} {fd : FuncData} {ps ks : List Str} {sp : Sp} {E : XK} {x : Str} {p pos : Pos} {kws : List Keyword} {tk : TA} {g : List Value → List Value → List Value} {gV : List V → List V → List V}
/-- f(k = v, ..) -/
theorem pe_callK0 (F : FnOk X.prog X.w X.K X.mg X.base CX k f fd ps sp) (hr : Room k X.A) (hg : Gl X x) (hm : X.mg x = some (.ref f)) (hk : PySem.W.keepIn X.K (.ref f) = true) (hb : KBinds X.K fd ps ks g gV) (hx : Passes CX X E) (hkw : PK X kws tk)
    (named : (backToKw pos (keywordEach kws X.env)).all (·.1.isSome) = true := by rfl) (names : (backToKw pos (keywordEach kws X.env)).filterMap (·.1) = ks := by rfl) (nodebug : (x == ("__debug__" : Str)) = false := by decide)
    (plain : ((backTo pos (starEach [] X.env)).any (·.1) || (backToKw pos (keywordEach kws X.env)).any (·.1.isNone)) = false := by rfl) :
    PE X (.Call (.Name x p) [] kws pos) (tCallK sp gV E tNil tk) := by
  constructor
  intro pins s σ H Q I reads
  refine wpAny_Call_Name_kw (ld_glob I hg hm ?_ nodebug)
  have told := hkw.run pos pins s σ H _ I reads
  refine PySem.W.callWith_KW0 (h₀ := X.base) I.ok.mod.kin hk named (thn told ?_) plain
  rintro ws s2 ⟨zs, H2, I2, rz, q2⟩
  rw [names]
  exact ⟨I2.kIn, run_fnk F hr hb hx I2 .nil rz q2⟩
end
/-! ### calls by a name -/
def g1K (us ws : List Value) : List Value := match us, ws with
  | [], [a] => [a]
  | _, _ => []
def g1V (us ws : List V) : List V := match us, ws with
  | [], [a] => [a]
  | _, _ => []
theorem kb_parse_term {K : PySem.W.Frag} {f : Addr} {fd : FuncData} (F : Fun K "parse_term" "parse_term" s_parse_term f fd) : KBinds K fd ["text"] ["text"] g1K g1V := by
  obtain ⟨oc, od, kV, doc, pm, an, cdv, ct, osl, rfl, lk, hcd⟩ := F.ex
  constructor
  · intro s us ws _ hl
    match us, ws, hl with
    | [], [a], _ => exact .of_eq rfl
  · intro vs us zs ws h1 h2
    cases h1 with
    | cons _ _ => exact .nil
    | nil =>
      match h2 with
      | .nil => exact .nil
      | .cons a .nil => exact .cons a .nil
      | .cons _ (.cons _ _) => exact .nil
theorem kb_parse_mix {K : PySem.W.Frag} {f : Addr} {fd : FuncData} (F : Fun K "parse_mix" "parse_mix" s_parse_mix f fd) : KBinds K fd ["text"] ["text"] g1K g1V := by
  obtain ⟨oc, od, kV, doc, pm, an, cdv, ct, osl, rfl, lk, hcd⟩ := F.ex
  constructor
  · intro s us ws _ hl
    match us, ws, hl with
    | [], [a], _ => exact .of_eq rfl
  · intro vs us zs ws h1 h2
    cases h1 with
    | cons _ _ => exact .nil
    | nil =>
      match h2 with
      | .nil => exact .nil
      | .cons a .nil => exact .cons a .nil
      | .cons _ (.cons _ _) => exact .nil
/-! ### what stays from statement to statement of the law -/
section
variable {K : PySem.W.Frag} {mg : Str → Option Value}
structure Kp (T : Txt K mg) (p : Addr) (H H' : Hp) : Prop where
  k : ∀ b o, b ≠ p → (∀ ps, o ≠ HO.tbl ps) → H b = some o → H' b = some o
  t : Tape H' p
  s : TBs (tts T) H'
variable {T : Txt K mg} {p q a l tl : Addr} {H H1 H' G : Hp} {v : V} {d : PyData} {xs zs ws : List V}
theorem Kp.refl (h : Tape H p) (s : TBs (tts T) H) : Kp T p H H := ⟨fun _ _ _ _ e => e, h, s⟩
theorem Kp.trans (x : Kp T p H H1) (y : Kp T p H1 H') : Kp T p H H' := ⟨fun b o n z e => y.k b o n z (x.k b o n z e), y.t, y.s⟩
theorem Kp.ex (x : Kp T p H H1) (e : Ex H1 H') : Kp T p H H' := ⟨fun b o n z h => e _ _ (x.k b o n z h), x.t.ex e, x.s.ex e⟩
theorem Kp.xt (x : Kp T p H H1) (e : ExT H1 H') (s : TBs (tts T) H') : Kp T p H H' := ⟨fun b o n z h => e b o z (x.k b o n z h), x.t.xt e, s⟩
theorem Kp.b (x : Kp T p H H1) (e : ExB p H1 H') (t : Tape H' p) : Kp T p H H' := ⟨fun b o n z h => e b o n (x.k b o n z h), t, x.t.tbs e x.s⟩
theorem Kp.ls (x : Kp T p H H') (h : Tape H p) (e : H l = some (.lst xs)) : H' l = some (.lst xs) := x.k l _ (h.ne e) (fun _ z => nomatch z) e
theorem Kp.mut (x : Kp T p H G) (n : ∀ o, (∀ ps, o ≠ HO.tbl ps) → H tl ≠ some o) (e : G tl = some (.lst zs)) : Kp T p H (upd G tl (.lst ws)) := by
  have up : ExB tl G (upd G tl (.lst ws)) := ExB.upd (ExB.refl tl G)
  refine ⟨fun b o nb z h => ?_, ?_, x.s.upd (ys := []) e up⟩
  · rw [upd_ne (by rintro rfl; exact n _ z h)]
    exact x.k b o nb z h
  · obtain ⟨d, m, h, r⟩ := x.t
    exact ⟨d, m, by rw [upd_ne (by rintro rfl; rw [h] at e; cases e)]; exact h, r⟩
theorem Kp.sl (x : Kp T p H H') (h : Tape H p) (e : SqL K H a xs) : SqL K H' a xs := by
  obtain ⟨d, m, hp, _⟩ := h
  rcases e with (e | ⟨o, e⟩) | e
  · exact .inl (.inl (x.k a _ (by rintro rfl; rw [hp] at e; cases e) (fun _ z => nomatch z) e))
  · exact .inl (.inr ⟨o, x.k a _ (by rintro rfl; rw [hp] at e; cases e) (fun _ z => nomatch z) e⟩)
  · exact .inr e
theorem Kp.st (x : Kp T p H H') (h : Tape H p) (e : SqT K H a xs) : SqT K H' a xs := by
  obtain ⟨d, m, hp, _⟩ := h
  rcases e with (e | ⟨o, e⟩) | e
  · exact .inl (.inl (x.k a _ (by rintro rfl; rw [hp] at e; cases e) (fun _ z => nomatch z) e))
  · exact .inl (.inr ⟨o, x.k a _ (by rintro rfl; rw [hp] at e; cases e) (fun _ z => nomatch z) e⟩)
  · exact .inr e
mutual
theorem Kp.dq (x : Kp T p H H') (ht : Tape H p) : ∀ {d : PyData} {v : V}, Dq K q H v d → Dq K q H' v d
  | _, _, .non => .non
  | _, _, .bl b => .bl b
  | _, _, .int i => .int i
  | _, _, .str x => .str x
  | _, _, .lst n m h hs => .lst n m (x.ls ht h) (Kp.dqs x ht hs)
  | _, _, .tup h hs => .tup (x.st ht h) (Kp.dqs x ht hs)
  | _, _, .emp h => .emp (x.k _ _ (by rintro rfl; exact ht.nl.2 h) (fun _ z => nomatch z) h)
theorem Kp.dqs (x : Kp T p H H') (ht : Tape H p) : ∀ {ds : List PyData} {vs : List V}, DqAll K q H vs ds → DqAll K q H' vs ds
  | _, _, .nil => .nil
  | _, _, .cons h hs => .cons (Kp.dq x ht h) (Kp.dqs x ht hs)
end
end
section
variable {K : PySem.W.Frag} {mg : Str → Option Value} {T : Txt K mg} {p : Addr} {H : Hp} {Q : VK} {E : XK} {σ : L2.St} {v u y : V} {d o e du dy : PyData} {ns : List Nat} {k S N n m S2 N2 n2 j S3 N3 n3 : Nat}
/-- why(lambda: ..) -/
def Wy (T : Txt K mg) (Q : VK) (f l : Addr) : XK := fun cls o H' => wAsM K (fun _ _ _ _ => False) { nx := fun σ G => tRet (tVar 1) { nx := fun _ H' => Q .non H', rt := Q } σ G, rt := Q } (hdW K T.E_BadText.C) cls o [some (.ref f), some (.ref l), none] H'
theorem lam_go {t : XK → TE} (ht : TBs (tts T) H) (k : ∀ (f l : Addr) (G : Hp) (Q' : VK), ExT H G → TBs (tts T) G → t (Wy T Q f l) σ G Q') : tLamB T.P_law "law.<locals>.<lambda>" (TWhy K T.E_BadText.C) t σ H Q :=
  ⟨ht.s (T.P_law, "law.<locals>.<lambda>") (by simp), fun _ eB tab1 f l fl _ => k f l _ _ ((lam_xt (ht.s (T.P_law, "law.<locals>.<lambda>") (by simp)) eB).trans (Ex.t (Ex.new fl))) ((TBs.lam ht eB tab1).ex (Ex.new fl))⟩
theorem wy_text {f l : Addr} (kk : ∀ l2 G, Ex H G → l2 ≠ sysModules → G l2 = some (.lst [v]) → Q (.ref l2) G) : Er T.E_BadText.C v H (Wy T Q f l) := er_text (T := T) (f := f) (l := l) kk
/-- one of three ints -/
theorem pk3 {a b c : Int} {i : Nat} (h2 : σ[i]? = some (some (.ref p))) (ht : Tape H p) (k : ∀ (x : Int) (H' : Hp), (x = a ∨ x = b ∨ x = c) → ExB p H H' → Tape H' p → Q (.int x) H') : tCall (spOneOf K) [] E (tCons (tVar i) (tCons (tLstN (tCons (tC (.int a)) (tCons (tC (.int b)) (tCons (tC (.int c)) tNil)))) tNil)) σ H Q := by
  refine ⟨_, h2, by show 3 ≤ sizeLine; decide, fun l fl nm => ?_⟩
  have x1 := Ex.new (o := .lst [V.int a, V.int b, V.int c]) fl
  have ht1 := ht.ex x1
  refine ⟨p, l, _, rfl, ht1, upd_same, ht1.ne upd_same, by show 0 < 3; decide, by show 3 ≤ 1000; decide, fun j x H' hx eb ht' => ?_⟩
  match j, hx with
  | 0, h => cases h; exact k a H' (.inl rfl) ((Ex.b x1).trans eb) ht'
  | 1, h => cases h; exact k b H' (.inr (.inl rfl)) ((Ex.b x1).trans eb) ht'
  | 2, h => cases h; exact k c H' (.inr (.inr rfl)) ((Ex.b x1).trans eb) ht'
/-- one of two that stand -/
theorem pk2 {tx ty : TE} {i : Nat} {x1 : V} (h2 : σ[i]? = some (some (.ref p))) (ht : Tape H p) (hx : Ev tx σ H x1) (hy : EvP ty σ H fun y H' => Dq K p H' y dy) (qx : Dq K p H x1 du) (k : ∀ (z : V) (dz : PyData) (H' : Hp), Dq K p H' z dz → ExB p H H' → Tape H' p → Q z H') : tCall (spOneOf K) [] E (tCons (tVar i) (tCons (tLstN (tCons tx (tCons ty tNil))) tNil)) σ H Q := by
  refine ⟨_, h2, hx H (Ex.refl _) _ fun H1 e1 => hy H1 e1 _ fun y H2 e2 qy => ⟨by show 2 ≤ sizeLine; decide, fun l fl nm => ?_⟩⟩
  have x3 := Ex.new (o := .lst [x1, y]) fl
  have ht1 := ht.ex ((e1.trans e2).trans x3)
  refine ⟨p, l, _, rfl, ht1, upd_same, ht1.ne upd_same, by show 0 < 2; decide, by show 2 ≤ 1000; decide, fun j x H' hx eb ht' => ?_⟩
  have eb' := (Ex.b ((e1.trans e2).trans x3)).trans eb
  match j, hx with
  | 0, h => cases h; exact k x1 du H' (ht1.dq eb (Dq.ex ((e1.trans e2).trans x3) _ _ qx)) eb' ht'
  | 1, h => cases h; exact k y dy H' (ht1.dq eb (Dq.ex x3 _ _ qy)) eb' ht'
/-- repr([x, y]) -/
theorem ev_repr2 {i j : Nat} {x1 y1 : V} {o1 : HO} (hp : H p = some o1) (hi : σ[i]? = some (some x1)) (hj : σ[j]? = some (some y1)) (qx : Dq K p H x1 du) (qy : Dq K p H y1 dy) (sh : Sh (.list [du, dy])) : Ev (tCB (rReprL K) (tCons (tLstN (tCons (tVar i) (tCons (tVar j) tNil))) tNil)) σ H (.str (PyData.list [du, dy]).shown) :=
  ev_reprL (ed_lst hp (eds_cons (ed_var hi qx) (eds_cons (ed_var hj qy) eds_nil)) (by show 2 ≤ 1000; decide)) sh
theorem str_neF {s : Str} : (!decide (V.str s = V.str s)) = false := by rw [decide_eq_true rfl]; rfl
end
theorem ifF {c : Bool} {A B : Prop} (h : c = false) (x : B) : if c = true then A else B := by
  rw [h]
  exact iteF x
/-- a drawn other term -/
structure OthOk (o : PyData) (m S2 N2 n2 : Nat) : Prop where
  tm : Tm m o S2 N2 n2
  m : m ≤ 26
  s : S2 ≤ 16
  n : N2 ≤ 48
  fl : flatD o = true
  dp : o.depth ≤ 49
theorem sh_pair {d o : PyData} {c e : Nat} (h1 : Nc c e d) (h2 : Nc c e o) (hc : c ≤ 300000) (he : e ≤ 99) : Sh (.list [d, o]) := (nc_lst (nca_cons h1 (nca_cons h2 nca_nil))).sh' (by omega) (by omega)
/-! ### a call of what a name holds; what no list stands at -/
section
variable {X : Cx} {CX : CXT} {E : XK} {x : Str} {p pos : Pos} {e : Expr} {es : List Expr} {t : TA} {i : Nat}
theorem pe_callV {ι : Type} {ff : ι → Addr} {fdd : ι → FuncData} {sps : ι → Sp} {kk : ι → Nat} {pss : ι → List Str} (F : ∀ j, FnOk X.prog X.w X.K X.mg X.base CX (kk j) (ff j) (fdd j) (pss j) (sps j)) (hr : ∀ j, Room (kk j) X.A) (hk : ∀ j, PySem.W.keepIn X.K (.ref (ff j)) = true) (hb : ∀ j, L2.Binds X.K (fdd j) (pss j) []) (hx : Passes CX X E) (hv : PE X (.Name x p) (tVar i))
    (ha : PA X (e :: es) t) (he : starEach (e :: es) X.env = (false, eval e X.env) :: starEach es X.env := by rfl) (hpl : (backTo pos (starEach es X.env)).any (·.1) = false := by rfl) :
    PE X (.Call (.Name x p) (e :: es) [] pos) (fun σ H Q => ∃ j, σ[i]? = some (some (.ref (ff j))) ∧ tCall (sps j) [] E t σ H Q) := by
  constructor
  rintro pins s σ H Q I ⟨j, hj, reads⟩
  have named := hv.run pins s σ H (fun v G => v = .ref (ff j) ∧ G = H) I ⟨.ref (ff j), hj, rfl, rfl⟩
  refine wpAny_Call_Name_kw (thn named ?_)
  rintro u s1 ⟨v, G, I1, ru, rfl, rfl⟩
  obtain rfl : u = Value.ref (ff j) := ru
  refine PySem.W.callWith_K (h₀ := X.base) I1.ok.mod.kin (hk j) ?_ he hpl
  refine thn (ha.run pos pins s1 σ _ _ I1 reads) fun us s2 told => ?_
  obtain ⟨vs, H2, I2, rz, q⟩ := told
  exact ⟨I2.kIn, run_fn (F j) (hr j) (hb j) .nil hx I2 rz q⟩
end
/-! ### repr of data, its lists anywhere -/
def rReprM (K : PySem.W.Frag) : List V → Hp → VK → Prop := fun xs H Q => ∃ (x : V) (d : PyData) (p : Addr), xs = [x] ∧ (Dq K p H x d ∨ Dp K H x d) ∧ d.showable = true ∧ d.depth ≤ 100 ∧ d.shown.length ≤ sizeLine ∧ Q (.str d.shown) H
theorem call_reprM {X : Cx} (gd : X.A.guards = some []) (hu : X.A.units + 104 < cLine) : CallR X (.builtin "repr") (rReprM X.K) := by
  intro pins s σ H xs us Q I r h
  obtain ⟨x, d, p, rfl, hd, hs, hdep, hz, q⟩ := h
  cases r with
  | cons r1 r2 =>
    cases r2
    rename_i u
    obtain ⟨as, hr, nm⟩ : ∃ as, Reads s.heap u d as ∧ (d.hasDict = true → sysModules ∉ as) := by
      rcases hd with hd | hd
      · obtain ⟨as, hr, nm⟩ := Dq.reads I d x u hd r1
        exact ⟨as, hr, fun _ => nm⟩
      · obtain ⟨as, hr⟩ := Dp.reads I d x u hd r1
        exact ⟨as, hr, fun z => by rw [Dp.nd d x hd] at z; cases z⟩
    have told : ∀ (h' : Heap) (u' tk : Tok), (∀ b o, s.heap.get? b = some o → h'.get? b = some o) → EP X pins σ Q (.str d.shown u') { s with heap := h', toks := tk } := fun h' u' tk hk => ⟨.str d.shown, H, I.kept hk, ⟨_, rfl⟩, q⟩
    have same := told s.heap s.toks (s.toks + 1) (fun _ _ z => z)
    cases hr with
    | none => exact PySem.P.repr_of_none (by simpa [PyData.shown] using same)
    | bool b => exact PySem.P.repr_of_bool (by simpa [PyData.shown] using same)
    | int i t => exact PySem.P.repr_of_int (by simpa [PyData.showable] using hs) (by simpa [PyData.shown] using same)
    | str y t => exact PySem.P.repr_of_str (by simpa [PyData.shown] using same) (by simpa [PyData.shown] using hz)
    | list h1 h2 h3 h4 => exact repr_of_reads' (.list h1 h2 h3 h4) hs nm gd (by omega) (fun _ _ z => z) told hz
    | tuple h1 h2 h3 h4 => exact repr_of_reads' (.tuple h1 h2 h3 h4) hs nm gd (by omega) (fun _ _ z => z) told hz
    | dict h1 h2 h3 h4 h5 => exact repr_of_reads' (.dict h1 h2 h3 h4 h5) hs nm gd (by omega) (fun _ _ z => z) told hz
/-! ### the law's own reading of what is within -/
/-- what is left to read, and the room, at the count c -/
def InS (f : Nat → Nat → Nat → Nat → Rd) (ws : List Str) (o : Nat) (kd : Str) (c a s t p : Nat) (rm : List V) (res : Rd) : Prop :=
  (kd = wStep ∧ rm = roomV s (p + 1) (t + 1) o ∧ rdO f ws (3 - c) a s t p = res) ∨
  (kd = wAll ∧ c = 0 ∧ rm = roomV s p t (o + 1) ∧ rdM f ws a s t p = res) ∨
  (kd = wAll ∧ c = 1 ∧ rm = roomV s p t o ∧ (match f a s t p with | .bad i => .bad i | .ok a2 s2 t2 p2 => rdM3 f ws a2 s2 t2 p2) = res) ∨
  (kd = wAll ∧ c = 2 ∧ rm = roomV s (p + 1) (t + 1) o ∧ rdM3 f ws a s t p = res) ∨
  (kd = wAll ∧ c = 3 ∧ rm = roomV s (p + 1) (t + 1) o ∧ rdC ws a s t p = res)
theorem room_eq (s p t o : Nat) : roomV s (p + 1) (t + 1) (o + 1) = roomV s p t o := by
  unfold roomV
  congr 2
  · congr 1
    omega
  · congr 2
    omega
def spLri (k : Nat) : Sp := fun vs H Q _ => ∃ (lw r : Addr) (ws : List Str) (a s t p o : Nat) (kd : Str) (rm : List V) (res : Rd), vs = [.ref lw, .int (a : Nat), .ref r, .int (o : Nat), .str kd] ∧ H lw = some (.lst (ws.map V.str)) ∧ WsL ws ∧ H r = some (.lst rm) ∧ InS (rdT k ws) ws o kd 0 a s t p rm res ∧ s ≤ 16 ∧ t ≤ 48 ∧ p ≤ 96 ∧ a ≤ ws.length ∧ 48 ≤ t + k ∧ (kd = wAll → 49 ≤ t + k) ∧
  ∀ v H', Ex H H' → LR o H' v res → Q v H'
/-- the loop ends: the word is a bracket, enough has been read -/
theorem ins_end {f : Nat → Nat → Nat → Nat → Rd} {ws : List Str} {o c a s t p : Nat} {kd : Str} {rm : List V} {res : Rd} (h : InS f ws o kd c a s t p rm res) (hx : ws[a]? = some wC) (h2 : kd = wAll → 2 ≤ c) : res = .ok (a + 1) s t p ∧ rm = roomV s (p + 1) (t + 1) o := by
  rcases h with ⟨rfl, hr, he⟩ | ⟨rfl, rfl, hr, he⟩ | ⟨rfl, rfl, hr, he⟩ | ⟨rfl, rfl, hr, he⟩ | ⟨rfl, rfl, hr, he⟩
  · refine ⟨?_, hr⟩
    cases hn : 3 - c with
    | zero =>
      rw [hn] at he
      unfold rdO rdC at he
      rw [if_pos hx] at he
      exact he.symm
    | succ n =>
      rw [hn] at he
      unfold rdO at he
      rw [if_pos hx] at he
      exact he.symm
  · have := h2 rfl
    omega
  · have := h2 rfl
    omega
  · unfold rdM3 at he
    rw [if_pos hx] at he
    exact ⟨he.symm, hr⟩
  · unfold rdC at he
    rw [if_pos hx] at he
    exact ⟨he.symm, hr⟩
/-- one more is read, or it is bad: what the law tests -/
def mustN (kd : Str) (c : Nat) : Nat := if kd = wAll ∧ c = 0 then 1 else 0
theorem ins_go {f : Nat → Nat → Nat → Nat → Rd} {ws : List Str} {o c a s t p : Nat} {kd : Str} {rm : List V} {res : Rd} (h : InS f ws o kd c a s t p rm res) (c3 : c ≤ 3) (hx : (kd = wAll ∧ c < 2) ∨ ws[a]? ≠ some wC) (t48 : t ≤ 48) (p96 : p ≤ 96) (bf : f a s (t + 1) (p + 1) = f a s (t + 1) (p + 1)) :
    ∃ (x0 x1 x2 : Int), rm = [.int x0, .int x1, .int x2] ∧
      ((c = 3 ∨ (x1 < 1 + (mustN kd c : Nat) + (o : Nat) ∨ x2 < 1 + (mustN kd c : Nat) + (o : Nat)) ∨ (kd = wStep ∧ posAt ws a = false)) → res = .bad a) ∧
      (¬ (c = 3 ∨ (x1 < 1 + (mustN kd c : Nat) + (o : Nat) ∨ x2 < 1 + (mustN kd c : Nat) + (o : Nat)) ∨ (kd = wStep ∧ posAt ws a = false)) →
        ∃ t' p', rm = roomV s p' t' (o + mustN kd c) ∧ t ≤ t' ∧ (kd = wStep → t' = t + 1) ∧ t' ≤ 48 ∧ p' ≤ 96 ∧
          (∀ i, f (a + (if kd = wStep then 1 else 0)) s t' p' = .bad i → res = .bad i) ∧
          (∀ a2 s2 t2 p2, f (a + (if kd = wStep then 1 else 0)) s t' p' = .ok a2 s2 t2 p2 → InS f ws o kd (c + 1) a2 s2 t2 p2 (roomV s2 (p2 + 1) (t2 + 1) (o + mustN kd c)) res)) := by
  have nSA : (wStep : Str) ≠ wAll := by decide +kernel
  have nAS : (wAll : Str) ≠ wStep := by decide +kernel
  rcases h with ⟨rfl, hr, he⟩ | ⟨rfl, rfl, hr, he⟩ | ⟨rfl, rfl, hr, he⟩ | ⟨rfl, rfl, hr, he⟩ | ⟨rfl, rfl, hr, he⟩
  · have hm : mustN wStep c = 0 := if_neg (fun z => nSA z.1)
    have hx' : ws[a]? ≠ some wC := by
      rcases hx with z | z
      · exact absurd z.1 nSA
      · exact z
    refine ⟨_, _, _, hr, ?_, ?_⟩
    · intro z
      rw [hm] at z
      cases hn : 3 - c with
      | zero =>
        rw [hn] at he
        unfold rdO rdC at he
        rw [if_neg hx'] at he
        exact he.symm
      | succ n =>
        rw [hn] at he
        unfold rdO at he
        rw [if_neg hx', if_neg ?_] at he
        · exact he.symm
        rintro ⟨y1, y2, y3⟩
        rcases z with z | (z | z) | ⟨_, z⟩
        · omega
        · omega
        · omega
        · rw [y1] at z
          cases z
    · intro z
      rw [hm] at z ⊢
      rw [Nat.add_zero]
      have hp : posAt ws a = true := by
        cases hq : posAt ws a with
        | true => rfl
        | false => exact absurd (.inr (.inr ⟨rfl, hq⟩)) z
      have g1 : c ≠ 3 := fun y => z (.inl y)
      have g2 : ¬ (97 + (o : Int) - ((p + 1 : Nat) : Int) < 1 + ((0 : Nat) : Int) + (o : Nat)) := fun y => z (.inr (.inl (.inl y)))
      have g3 : ¬ (49 + (o : Int) - ((t + 1 : Nat) : Int) < 1 + ((0 : Nat) : Int) + (o : Nat)) := fun y => z (.inr (.inl (.inr y)))
      obtain ⟨n, hn⟩ : ∃ n, 3 - c = n + 1 := ⟨2 - c, by omega⟩
      rw [hn] at he
      unfold rdO at he
      rw [if_neg hx', if_pos ⟨hp, by omega, by omega⟩] at he
      refine ⟨t + 1, p + 1, hr, by omega, fun _ => rfl, by omega, by omega, fun i hi => ?_, fun a2 s2 t2 p2 hi => ?_⟩
      · rw [if_pos rfl] at hi
        rw [hi] at he
        exact he.symm
      · rw [if_pos rfl] at hi
        rw [hi] at he
        refine .inl ⟨rfl, rfl, ?_⟩
        rw [show 3 - (c + 1) = n by omega]
        exact he
  · have hm : mustN wAll 0 = 1 := if_pos ⟨rfl, rfl⟩
    refine ⟨_, _, _, hr, ?_, ?_⟩
    · intro z
      rw [hm] at z
      exfalso
      rcases z with z | (z | z) | ⟨z, _⟩
      · omega
      · omega
      · omega
      · exact nAS z
    · intro z
      rw [hm]
      refine ⟨t, p, hr, Nat.le_refl _, fun y => absurd y nAS, t48, p96, fun i hi => ?_, fun a2 s2 t2 p2 hi => ?_⟩
      · rw [if_neg nAS] at hi
        unfold rdM at he
        rw [show a + 0 = a from rfl] at hi
        rw [hi] at he
        exact he.symm
      · rw [if_neg nAS] at hi
        unfold rdM at he
        rw [show a + 0 = a from rfl] at hi
        rw [hi] at he
        exact .inr (.inr (.inl ⟨rfl, rfl, room_eq .., he⟩))
  · have hm : mustN wAll 1 = 0 := if_neg (fun z => by cases z.2)
    refine ⟨_, _, _, hr, ?_, ?_⟩
    · intro z
      rw [hm] at z
      exfalso
      rcases z with z | (z | z) | ⟨z, _⟩
      · omega
      · omega
      · omega
      · exact nAS z
    · intro z
      rw [hm, Nat.add_zero]
      refine ⟨t, p, hr, Nat.le_refl _, fun y => absurd y nAS, t48, p96, fun i hi => ?_, fun a2 s2 t2 p2 hi => ?_⟩
      · rw [if_neg nAS, show a + 0 = a from rfl] at hi
        rw [hi] at he
        exact he.symm
      · rw [if_neg nAS, show a + 0 = a from rfl] at hi
        rw [hi] at he
        exact .inr (.inr (.inr (.inl ⟨rfl, rfl, rfl, he⟩)))
  · have hm : mustN wAll 2 = 0 := if_neg (fun z => by cases z.2)
    have hx' : ws[a]? ≠ some wC := by
      rcases hx with z | z
      · omega
      · exact z
    unfold rdM3 at he
    rw [if_neg hx'] at he
    refine ⟨_, _, _, hr, ?_, ?_⟩
    · intro z
      rw [hm] at z
      rw [if_neg ?_] at he
      · exact he.symm
      rintro ⟨y2, y3⟩
      rcases z with z | (z | z) | ⟨z, _⟩
      · omega
      · omega
      · omega
      · exact nAS z
    · intro z
      rw [hm] at z ⊢
      rw [Nat.add_zero]
      have g2 : ¬ (97 + (o : Int) - ((p + 1 : Nat) : Int) < 1 + ((0 : Nat) : Int) + (o : Nat)) := fun y => z (.inr (.inl (.inl y)))
      have g3 : ¬ (49 + (o : Int) - ((t + 1 : Nat) : Int) < 1 + ((0 : Nat) : Int) + (o : Nat)) := fun y => z (.inr (.inl (.inr y)))
      rw [if_pos ⟨by omega, by omega⟩] at he
      refine ⟨t + 1, p + 1, hr, by omega, fun y => absurd y nAS, by omega, by omega, fun i hi => ?_, fun a2 s2 t2 p2 hi => ?_⟩
      · rw [if_neg nAS, show a + 0 = a from rfl] at hi
        rw [hi] at he
        exact he.symm
      · rw [if_neg nAS, show a + 0 = a from rfl] at hi
        rw [hi] at he
        exact .inr (.inr (.inr (.inr ⟨rfl, rfl, rfl, he⟩)))
  · have hx' : ws[a]? ≠ some wC := by
      rcases hx with z | z
      · omega
      · exact z
    unfold rdC at he
    rw [if_neg hx'] at he
    exact ⟨_, _, _, hr, fun _ => he.symm, fun z => absurd (.inl rfl) z⟩
theorem t_call4 {sp : Sp} {E : XK} {ta tb tc td : TE} {σ : L2.St} {H : Hp} {Q : VK} (h : ta σ H fun x H1 => tb σ H1 fun y H2 => tc σ H2 fun z H3 => td σ H3 fun u H4 => sp [x, y, z, u] H4 Q E) : tCall sp [] E (tCons ta (tCons tb (tCons tc (tCons td tNil)))) σ H Q := h
theorem must_val {kd : Str} {c le : Nat} (c3 : c ≤ 3) (h : (kd = wStep ∧ le = 0) ∨ (kd = wAll ∧ le = 2)) : (if ((le : Int) - (c : Int) - 1) > 0 then ((le : Int) - (c : Int) - 1) else 0) = ((mustN kd c : Nat) : Int) := by
  have nSA : (wStep : Str) ≠ wAll := by decide +kernel
  unfold mustN
  rcases h with ⟨rfl, rfl⟩ | ⟨rfl, rfl⟩
  · rw [if_neg (by omega), if_neg (fun z => nSA z.1)]
    rfl
  · by_cases c0 : c = 0
    · subst c0
      rw [if_pos (by decide), if_pos ⟨rfl, rfl⟩]
      rfl
    · rw [if_neg (by omega), if_neg (fun z => c0 z.2)]
      rfl
section
variable {P : Program} {w : World} {K : PySem.W.Frag} {mg : Str → Option Value} {base : Heap}
theorem ri_of (T : Txt K mg) (k : Nat) (ok_rd : FnOk P w K mg base CX0 (10 + 2 * k) T.d__law_read.a T.d__law_read.fd ["_law_words_here", "_law_at", "_law_room", "_law_owed"] (spLrd k)) : FnOk P w K mg base CX0 (10 + 2 * k + 1) T.d__law_read_inner.a T.d__law_read_inner.fd ["_law_words_here", "_law_at", "_law_room", "_law_owed", "_law_kind"] (spLri k) := by
  refine (T.d__law_read_inner.F.ok (k := 10 + 2 * k) sc__law_read_inner (fun vs H Q E h => ?_) fun cdv A outer s H vs Q E hr h => ?_)
  · obtain ⟨lw, r, ws, a, s, t, p, o, kd, rm, res, rfl, _⟩ := h
    rfl
  · obtain ⟨lw, r, ws, a, s', t, p, o, kd, rm, res, rfl, hw, wl, hrm, ins, s16, t48, p96, al, tk, tk2, kk⟩ := h
    refine ⟨_, (pss_cons (ps_par (i := 5) (j := 6) (by rfl) sc__law_read_inner.nd rfl rfl (by decide) rfl rfl (pa_cons pe_int (pa_cons (pe_op op_mulW pe_int (pe_callTy call_int1 (by rfl) T.n_int (by decide +kernel) (pa_cons (pe_cmpR op_eq (pv 4) pe_str (nomark _)) pa_nil))) pa_nil)) (by rfl))
      (pss_cons (ps_while PassesOwn.never (PW.pt (pw_or (pt_cmpR op_lt (pv 5) (pv 6) (nomark _)) (pw_or1 (pt_cmpR op_ne (pe_call (ok__law_word T) (hr.mono (by omega)) (by rfl) T.d__law_word.g T.d__law_word.F.kp T.d__law_word.b .nil pass0 (pa_cons (pv 0) (pa_cons (pv 1) pa_nil))) pe_str (nomark _))))) (pss_cons (ps_set (i := 7) sc__law_read_inner.nd rfl (Or.inl rfl) (pe_callB (call_max2 rfl) (by rfl) T.n_max (by decide +kernel) (pa_cons pe_int (pa_cons (pe_op op_sub (pe_op op_sub (pv 6) (pv 5)) pe_int) pa_nil))))
      (pss_cons (ps_if (PW.pt (pw_or (pt_cmpR op_eq (pv 5) pe_int (nomark _)) (pw_or (pt_cmpR op_lt (pe_callB (cr_min rfl) (by rfl) T.n_min (by decide +kernel) (pa_cons (pe_slice sl_list (pv 2) (po_some pe_int) po_none) pa_nil)) (pe_op op_add (pe_op op_add pe_int (pv 7)) (pv 3)) (nomark _)) (pw_or1 (PW.pt (pw_and (pt_cmpR op_eq (pv 4) pe_str (nomark _)) (pw_and1 (pt_not (pt_val (pe_call (ok__law_is_number T) (hr.mono (by omega)) (by rfl) T.d__law_is_number.g T.d__law_is_number.F.kp T.d__law_is_number.b .nil pass0 (pa_cons (pe_call (ok__law_word T) (hr.mono (by omega)) (by rfl) T.d__law_word.g T.d__law_word.F.kp T.d__law_word.b .nil pass0 (pa_cons (pv 0) (pa_cons (pv 1) pa_nil))) (pa_cons pe_bl pa_nil)))))))))))) (pss_one (ps_ret (pe_lst (pa_cons (pv 1) pa_nil)))) pss_nil)
      (pss_cons (ps_set (i := 8) sc__law_read_inner.nd rfl (Or.inl rfl) (pe_call (ok_rd) (hr.mono (by first | decide | omega)) (by rfl) T.d__law_read.g T.d__law_read.F.kp T.d__law_read.b .nil pass0 (pa_cons (pv 0) (pa_cons (pe_op op_add (pv 1) (pe_callTy call_int1 (by rfl) T.n_int (by decide +kernel) (pa_cons (pe_cmpR op_eq (pv 4) pe_str (nomark _)) pa_nil))) (pa_cons (pv 2) (pa_cons (pe_op op_add (pv 3) (pv 7)) pa_nil))))))
      (pss_cons (ps_if (pt_cmpR op_eq (pe_callB call_len_seq (by rfl) T.n_len (by decide +kernel) (pa_cons (pv 8) pa_nil)) pe_int (nomark _)) (pss_one (ps_ret (pv 8))) pss_nil)
      (pss_cons (ps_asg (pv 8) (pg_unl (by rfl) (pgs_cons (pg_name (i := 1) sc__law_read_inner.nd rfl (Or.inl rfl)) (pgs_cons (pg_name (i := 2) sc__law_read_inner.nd rfl (Or.inl rfl)) pgs_nil))))
      (pss_one (ps_set (i := 5) sc__law_read_inner.nd rfl (Or.inl rfl) (pe_op op_add (pv 5) pe_int)))))))))
      (pss_one (ps_ret (pe_lst (pa_cons (pe_op op_add (pv 1) pe_int) (pa_cons (pv 2) pa_nil))))))), ?_⟩
    have kds : kd = wStep ∨ kd = wAll := by
      rcases ins with h | h | h | h | h
      · exact .inl h.1
      all_goals exact .inr h.1
    obtain ⟨le, hle, hl2⟩ : ∃ le : Nat, ((2 : Int) * (if decide (V.str kd = V.str "all") = true then 1 else 0)) = (le : Nat) ∧ ((kd = wStep ∧ le = 0) ∨ (kd = wAll ∧ le = 2)) := by
      rcases kds with rfl | rfl
      · exact ⟨0, by decide +kernel, .inl ⟨rfl, rfl⟩⟩
      · exact ⟨2, by decide +kernel, .inr ⟨rfl, rfl⟩⟩
    refine n_seq ?_
    refine s_par ?_
    have mul2 : CMulW 2 (if decide (V.str kd = V.str "all") = true then 1 else 0) := by
      by_cases c : decide (V.str kd = V.str "all") = true
      · rw [if_pos c]
        exact mulW (a := 2) (b := 2) (by decide) (by decide) (by decide)
      · rw [if_neg c]
        exact mulW (a := 2) (b := 2) (by decide) (by decide) (by decide)
    refine ⟨_, rfl, rfl, .inr ⟨_, rfl, 2, _, rfl, rfl, mul2, ?_⟩⟩
    dsimp only
    rw [hle]
    refine ⟨_, _, rfl, ?_⟩
    refine n_seq ?_
    refine while_by (fun σ G => ∃ (c a s t p : Nat) (rr : Addr) (rm : List V) (y7 y8 : Option V), c ≤ 3 ∧ σ = [some (.ref lw), some (.int (a : Nat)), some (.ref rr), some (.int (o : Nat)), some (.str kd), some (.int (c : Nat)), some (.int (le : Nat)), y7, y8] ∧ Ex H G ∧ G rr = some (.lst rm) ∧ InS (rdT k ws) ws o kd c a s t p rm res ∧ s ≤ 16 ∧ t ≤ 48 ∧ p ≤ 96 ∧ a ≤ ws.length ∧ 48 ≤ t + k ∧ (kd = wAll → 49 ≤ t + k))
      (fun σ _ => match (σ[5]? : Option (Option V)) with
        | some (some (V.int c)) => 3 - c.toNat
        | _ => 0) ⟨0, a, s', t, p, r, rm, none, none, by decide, rfl, Ex.refl H, hrm, ins, s16, t48, p96, al, tk, tk2⟩ ?_ ?_
    · clear ins s16 t48 p96 al tk tk2 hrm rm a s' t p r
      rintro σ G ⟨c, a, s', t, p, rr, rm, y7, y8, c3, rfl, ex, hrm, ins, s16, t48, p96, al, tk, tk2⟩
      have hwG := ex _ _ hw
      have wne : (wC : Str) ≠ "" := by decide +kernel
      refine (et_is (b := decide ((c : Int) < (le : Int)) || !decide (V.str (wordAt ws a) = V.str ")")) (et_or (et_test (ev_op (ev_var rfl) (ev_var rfl) rv_I0)) fun _ => et_test (ev_op (ev_wd (ev_var rfl) (ev_var rfl) hwG) ev_c (rv_ne rfl))) rfl) G (Ex.refl _) _ fun G1 e1 => ?_
      have hw1 := e1 _ _ hwG
      have hr1 := e1 _ _ hrm
      have ex1 := ex.trans e1
      by_cases go : (decide ((c : Int) < (le : Int)) || !decide (V.str (wordAt ws a) = V.str ")")) = true
      · refine ifT' go ?_
        have hx : (kd = wAll ∧ c < 2) ∨ ws[a]? ≠ some wC := by
          rw [Bool.or_eq_true, decide_eq_true_iff, Bool.not_eq_true', decide_eq_false_iff_not] at go
          rcases go with z | z
          · rcases hl2 with ⟨_, y⟩ | ⟨y1, y2⟩
            · omega
            · exact .inl ⟨y1, by omega⟩
          · exact .inr fun y => z (by rw [wordAt_some y])
        obtain ⟨x0, x1, x2, rfl, hbad, hgo⟩ := ins_go ins c3 hx t48 p96 rfl
        have hm := must_val c3 hl2
        refine n_seq ?_
        refine s_asgP (P := fun v _ => v = .int ((mustN kd c : Nat) : Int)) (fun H1 e Q k => ⟨_, rfl, _, rfl, ⟨_, _, rfl, rfl, ⟨_, _, rfl, rfl, ⟨_, _, rfl, k _ _ (Ex.refl _) (by rw [← hm])⟩⟩⟩⟩) fun v G2 e2 hv => ?_
        subst hv
        have hw2 := e2 _ _ hw1
        have hr2 := e2 _ _ hr1
        have ex2 := ex1.trans e2
        dsimp only
        refine n_seq ?_
        have minE : ∀ {G3 : Hp} {σ : L2.St}, Ex G2 G3 → σ[2]? = some (some (.ref rr)) → σ[7]? = some (some (.int ((mustN kd c : Nat) : Int))) → σ[3]? = some (some (.int (o : Nat))) →
            EvT (tTest (tOp (rI0 fun i j => V.bl (decide (i < j))) (tCB (rMin K) (tCons (tSl (rSlL K) (tVar 2) (tPart (tC (.int 1))) tNoPart) tNil)) (tOp (rI0 fun i j => V.int (i + j)) (tOp (rI0 fun i j => V.int (i + j)) (tC (.int 1)) (tVar 7)) (tVar 3)))) σ G3 (decide (x1 < 1 + ((mustN kd c : Nat) : Int) + (o : Nat) ∨ x2 < 1 + ((mustN kd c : Nat) : Int) + (o : Nat))) := fun {G3 σ} e3 g2 g7 g3 H1 e Q kq => by
          refine ⟨_, g2, 1, rfl, rr, _, rfl, SqL.of ((e3.trans e) _ _ hr2), fun q nq => ?_⟩
          refine ⟨q, [x1, x2], rfl, SqL.of upd_same, by show 0 < 2; decide, fun mi hmi hml => ?_⟩
          refine ⟨_, g7, 1, _, rfl, rfl, _, g3, _, _, rfl, rfl, _, _, rfl, rfl, _, rfl, ?_⟩
          have em : decide (mi < 1 + ((mustN kd c : Nat) : Int) + (o : Nat)) = decide (x1 < 1 + ((mustN kd c : Nat) : Int) + (o : Nat) ∨ x2 < 1 + ((mustN kd c : Nat) : Int) + (o : Nat)) := by
            have l1 := hml x1 (by simp)
            have l2 := hml x2 (by simp)
            rw [Bool.eq_iff_iff, decide_eq_true_iff, decide_eq_true_iff]
            simp only [List.mem_cons, List.not_mem_nil, or_false] at hmi
            rcases hmi with rfl | rfl
            · constructor
              · exact .inl
              · intro z; omega
            · constructor
              · exact .inr
              · intro z; omega
          rw [em]
          exact kq _ (Ex.new nq)
        have numE : ∀ {G3 : Hp} {σ : L2.St}, Ex G2 G3 → σ[0]? = some (some (.ref lw)) → σ[1]? = some (some (.int (a : Nat))) → Ev (tCall spNumL [] E0 (tCons (tCall spWd [] E0 (tCons (tVar 0) (tCons (tVar 1) tNil))) (tCons (tC (.bl true)) tNil))) σ G3 (.bl (posAt ws a)) := fun {G3 σ} e3 g0 g1 H1 e Q kq => by
          refine (ev_wd (ev_var g0) (ev_var g1) (e3 _ _ hw2)) H1 e _ fun H2 e2 => ?_
          have wo := wordAt_ok wl a
          refine ⟨wordAt ws a, true, rfl, wo.1, wo.2, fun H3 e3 => ?_⟩
          have := kq H3 (e2.trans e3)
          rw [posAt_w] at this
          exact this
        refine s_if (b := decide (c = 3) || (decide (x1 < 1 + ((mustN kd c : Nat) : Int) + (o : Nat) ∨ x2 < 1 + ((mustN kd c : Nat) : Int) + (o : Nat)) || (decide (kd = wStep) && !posAt ws a))) (et_is (et_or (et_test (ev_op (ev_var rfl) ev_c (rv_eq rfl))) fun _ => et_or (minE (Ex.refl _) rfl rfl rfl) fun _ => et_and (et_test (ev_op (ev_var rfl) ev_c (rv_eq rfl))) fun _ => et_not (et_B (numE (Ex.refl _) rfl rfl))) ?_) (fun z G3 e3 => ?_) fun z G3 e3 => ?_
        · rw [show decide (V.int ((c : Nat) : Int) = V.int 3) = decide (c = 3) from dV (c := 3)]
          congr 3
          rw [Bool.eq_iff_iff, decide_eq_true_iff, decide_eq_true_iff]
          exact ⟨fun z => by injection z, fun z => by rw [z]⟩
        · have hb := hbad (by
            rw [Bool.or_eq_true, Bool.or_eq_true, Bool.and_eq_true, decide_eq_true_iff, decide_eq_true_iff, decide_eq_true_iff, Bool.not_eq_true'] at z
            exact z)
          subst hb
          refine ⟨_, rfl, by show 1 ≤ sizeLine; decide, fun l fl => ?_⟩
          have xl := Ex.new (o := .lst [V.int (a : Nat)]) fl
          exact kk (.ref l) _ ((ex2.trans e3).trans xl) ⟨l, rfl, upd_same⟩
        · obtain ⟨t', p', hrm', tt', ts', t48', p96', gbad, gok⟩ := hgo (fun y => by
            have : (decide (c = 3) || (decide (x1 < 1 + ((mustN kd c : Nat) : Int) + (o : Nat) ∨ x2 < 1 + ((mustN kd c : Nat) : Int) + (o : Nat)) || (decide (kd = wStep) && !posAt ws a))) = true := by
              rw [Bool.or_eq_true, Bool.or_eq_true, Bool.and_eq_true, decide_eq_true_iff, decide_eq_true_iff, decide_eq_true_iff, Bool.not_eq_true']
              exact y
            rw [this] at z
            cases z)
          have pst : kd = wStep → posAt ws a = true := fun ks => by
            cases hp : posAt ws a with
            | true => rfl
            | false =>
              rw [hp, decide_eq_true ks] at z
              simp at z
          have al' : a + (if kd = wStep then 1 else 0) ≤ ws.length := by
            by_cases ks : kd = wStep
            · rw [if_pos ks]
              exact posAt_lt (pst ks)
            · rw [if_neg ks]
              exact al
          have tk' : 49 ≤ t' + k := by
            rcases hl2 with ⟨y1, _⟩ | ⟨y1, _⟩
            · have := ts' y1
              omega
            · have := tk2 y1
              omega
          refine n_next ?_
          have ex3 := ex2.trans e3
          have hw3 := e3 _ _ hw2
          have hr3 := e3 _ _ hr2
          rw [hrm'] at hr3
          dsimp only
          refine n_seq ?_
          generalize ha' : a + (if kd = wStep then 1 else 0) = a' at gbad gok al'
          refine s_asgP (P := fun v G => LR (o + mustN kd c) G v (rdT k ws a' s' t' p')) (fun H1 e Q kq => ?_) fun v G4 e4 hv => ?_
          · refine t_call4 ?_
            refine ⟨_, rfl, ?_⟩
            refine ⟨_, rfl, _, rfl, rfl, .inr ⟨_, rfl, _, _, rfl, rfl, ?_⟩⟩
            refine ⟨_, rfl, ?_⟩
            refine ⟨_, rfl, _, rfl, _, _, rfl, rfl, ?_⟩
            have ea : (a : Int) + (if decide (V.str kd = V.str "step") = true then 1 else 0) = ((a' : Nat) : Int) := by
              rw [← ha']
              by_cases ks : kd = wStep
              · rw [if_pos ks, if_pos (decide_eq_true (by rw [ks]))]
                rfl
              · rw [if_neg ks, if_neg (by rw [decide_eq_true_iff]; exact fun y => ks (by injection y))]
                rfl
            dsimp only
            rw [ea]
            refine ⟨lw, rr, ws, a', s', t', p', o + mustN kd c, rfl, e _ _ hw3, wl, e _ _ hr3, s16, t48', by omega, al', tk', fun v H4 e7 lr => ?_⟩
            unfold rdL at lr
            rw [if_pos p96'] at lr
            exact kq v H4 e7 lr
          · have g := rdT_ok ws k a' s' t' p' al' s16 t48' p96'
            have ex4 := ex3.trans e4
            dsimp only
            cases hq : rdT k ws a' s' t' p' with
            | bad i =>
              rw [hq] at hv
              obtain ⟨l, rfl, hl⟩ := hv
              have hb := gbad i hq
              subst hb
              refine n_seq ?_
              refine s_if (b := true) (et_is (et_test (ev_op (fun H1 e Q kq => ⟨_, rfl, l, _, rfl, .inl (SqL.of (e _ _ hl)), kq H1 (Ex.refl _)⟩) ev_c (rv_eq rfl))) (decide_eq_true rfl)) (fun _ G5 e5 => ?_) fun z => nomatch z
              exact ⟨_, rfl, kk (.ref l) G5 (ex4.trans e5) ⟨l, rfl, e5 _ _ hl⟩⟩
            | ok a2 s2 t2 p2 =>
              rw [hq] at hv
              obtain ⟨l, r2, rfl, hl, hr2'⟩ := hv
              have ins2 := gok _ _ _ _ hq
              have g2 := g _ _ _ _ hq
              refine n_seq ?_
              refine s_if (b := false) (et_is (et_test (ev_op (fun H1 e Q kq => ⟨_, rfl, l, _, rfl, .inl (SqL.of (e _ _ hl)), kq H1 (Ex.refl _)⟩) ev_c (rv_eq rfl))) (decide_eq_false (fun y => by injection y with y; cases y))) (fun z => nomatch z) fun _ G5 e5 => ?_
              refine n_next ?_
              refine n_seq ?_
              refine ⟨_, rfl, l, _, rfl, SqL.of (e5 _ _ hl), rfl, _, _, rfl, _, _, rfl, rfl, ?_⟩
              dsimp only
              refine ⟨_, rfl, _, _, rfl, rfl, ?_⟩
              refine ⟨⟨c + 1, a2, s2, t2, p2, r2, _, _, _, ?_, rfl, ex4.trans e5, e5 _ _ hr2', ins2, g2.2.2.1, g2.2.2.2.2.1, g2.2.2.2.2.2, g2.2.1, by omega, fun y => by have := tk2 y; omega⟩, ?_⟩
              · have : c ≠ 3 := fun y => by
                  rw [decide_eq_true y] at z
                  cases z
                omega
              · have : c ≠ 3 := fun y => by
                  rw [decide_eq_true y] at z
                  cases z
                show 3 - (((c : Nat) : Int) + 1).toNat < 3 - ((c : Nat) : Int).toNat
                omega
      · have go' : (decide ((c : Int) < (le : Int)) || !decide (V.str (wordAt ws a) = V.str ")")) = false := by simpa using go
        refine ifF' go' ?_
        rw [Bool.or_eq_false_iff, decide_eq_false_iff_not, Bool.not_eq_false', decide_eq_true_iff] at go'
        have hx : ws[a]? = some wC := (wordAt_iff wne).mp (by have := go'.2; injection this)
        obtain ⟨rfl, hrm2⟩ := ins_end ins hx (fun z => by
          rcases hl2 with ⟨y1, _⟩ | ⟨_, y2⟩
          · rw [y1] at z
            exact absurd z (by decide +kernel)
          · omega)
        subst hrm2
        refine ⟨_, rfl, ⟨_, _, rfl, rfl, ⟨_, rfl, by show 2 ≤ sizeLine; decide, fun l fl => ?_⟩⟩⟩
        have xl := Ex.new (o := .lst [V.int ((a + 1 : Nat) : Int), .ref rr]) fl
        exact kk (.ref l) _ (ex1.trans xl) ⟨l, rr, rfl, upd_same, xl _ _ hr1⟩
    · rintro σ G Q Q' hq h
      obtain ⟨x, h1, y, h2, i, j, h3, h4, b, h5, h6⟩ := h
      refine ⟨x, h1, y, h2, i, j, h3, h4, b, h5, ?_⟩
      by_cases hb : b = true
      · rw [if_pos hb] at h6 ⊢
        exact hq _ _ h6
      · rw [if_neg hb] at h6 ⊢
        obtain ⟨y0, g0, y1, g1, lw', ws', a', e1, e2, kw⟩ := h6
        refine ⟨y0, g0, y1, g1, lw', ws', a', e1, e2, fun H' e' => ?_⟩
        obtain ⟨k1, c, k2, k3⟩ := kw H' e'
        exact ⟨k1, c, k2, hq _ _ k3⟩
end
/-! ### the law's own reading of a term -/
theorem in3 {x : Str} : inV (V.str x) [V.str "end", V.str "step", V.str "all"] = (decide (x = wEnd) || (decide (x = wStep) || decide (x = wAll))) := by
  unfold inV
  simp only [List.any_cons, List.any_nil, Bool.or_false]
  have e : ∀ y : Str, eqV (V.str y) (V.str x) = decide (x = y) := fun y => by
    rw [Bool.eq_iff_iff, decide_eq_true_iff]
    constructor
    · intro h
      have h' : (y == x) = true := h
      exact (eq_of_beq h').symm
    · rintro rfl
      show (x == x) = true
      exact beq_self_eq_true x
  rw [e, e, e]
theorem dS {x y : Str} : decide (V.str x = V.str y) = decide (x = y) := by
  rw [Bool.eq_iff_iff, decide_eq_true_iff, decide_eq_true_iff]
  exact ⟨fun z => by injection z, fun z => by rw [z]⟩
/-- what the law tests ahead -/
def rdBad (x0 x1 x2 : Int) (o : Nat) (x : Str) : Bool := !(decide (x = wEnd) || (decide (x = wStep) || decide (x = wAll))) || (decide (x1 < 1 + ((if x = wAll then 2 else 0 : Nat) : Int) + (o : Nat) ∨ x2 < 1 + ((if x = wAll then 2 else 0 : Nat) : Int) + (o : Nat)) || (decide (x = wStep) && decide (x0 = 0)))
theorem rdL_bad {k : Nat} {ws : List Str} {a s t p o : Nat} (s16 : s ≤ 16) (t48 : t ≤ 48) (h : rdBad (16 - (s : Int)) (97 + (o : Int) - (p : Int)) (49 + (o : Int) - (t : Int)) o (wordAt ws a) = true) : rdL (k + 1) ws a s t p = .bad a := by
  unfold rdL
  by_cases c : p ≤ 96
  · rw [if_pos c]
    unfold rdT
    have e1 : ws[a]? = some wStep ↔ wordAt ws a = wStep := (wordAt_iff (by decide +kernel)).symm
    have e2 : ws[a]? = some wAll ↔ wordAt ws a = wAll := (wordAt_iff (by decide +kernel)).symm
    have e3 : ws[a]? = some wEnd ↔ wordAt ws a = wEnd := (wordAt_iff (by decide +kernel)).symm
    have n1 : (wStep : Str) ≠ wAll := by decide +kernel
    unfold rdBad at h
    rw [Bool.or_eq_true, Bool.or_eq_true, Bool.and_eq_true, Bool.not_eq_true', Bool.or_eq_false_iff, Bool.or_eq_false_iff, decide_eq_false_iff_not, decide_eq_false_iff_not, decide_eq_false_iff_not, decide_eq_true_iff, decide_eq_true_iff, decide_eq_true_iff] at h
    by_cases w1 : wordAt ws a = wStep
    · rw [if_pos (e1.mpr w1), if_neg]
      intro y
      rw [w1, if_neg n1] at h
      rcases h with h | h | h
      · exact h.2.1 rfl
      · omega
      · omega
    rw [if_neg (fun y => w1 (e1.mp y))]
    by_cases w2 : wordAt ws a = wAll
    · rw [if_pos (e2.mpr w2), if_neg]
      rintro ⟨y1, y2⟩
      rw [w2, if_pos rfl] at h
      rcases h with h | h | h
      · exact h.2.2 rfl
      · omega
      · exact n1 h.1.symm
    rw [if_neg (fun y => w2 (e2.mp y))]
    by_cases w3 : wordAt ws a = wEnd
    · rw [w3, if_neg (by decide +kernel)] at h
      rcases h with h | h | h
      · exact absurd rfl h.1
      · omega
      · exact absurd h.1 (by decide +kernel)
    rw [if_neg (fun y => w3 (e3.mp y))]
  · rw [if_neg c]
theorem rdL_go {ws : List Str} {a s t p o : Nat} (s16 : s ≤ 16) (h : rdBad (16 - (s : Int)) (97 + (o : Int) - (p : Int)) (49 + (o : Int) - (t : Int)) o (wordAt ws a) = false) : p ≤ 96 ∧ ((wordAt ws a = wEnd) ∨ (wordAt ws a = wStep ∧ s + 1 ≤ 16) ∨ (wordAt ws a = wAll ∧ t + 2 ≤ 48 ∧ p + 2 ≤ 96)) := by
  unfold rdBad at h
  rw [Bool.or_eq_false_iff, Bool.or_eq_false_iff, Bool.and_eq_false_iff, Bool.not_eq_false', Bool.or_eq_true, Bool.or_eq_true, decide_eq_true_iff, decide_eq_true_iff, decide_eq_true_iff, decide_eq_false_iff_not, decide_eq_false_iff_not, decide_eq_false_iff_not] at h
  obtain ⟨h1, h2, h3⟩ := h
  rcases h1 with w | w | w
  · rw [w, if_neg (by decide +kernel)] at h2
    exact ⟨by omega, .inl w⟩
  · rw [w, if_neg (by decide +kernel)] at h2
    refine ⟨by omega, .inr (.inl ⟨w, ?_⟩)⟩
    rcases h3 with y | y
    · exact absurd w y
    · omega
  · rw [w, if_pos rfl] at h2
    exact ⟨by omega, .inr (.inr ⟨w, by omega, by omega⟩)⟩
theorem t_retIf {tt : TT} {ta tb : TE} {D : Ends} {σ : L2.St} {H : Hp} (h : tt σ H fun b H1 => if b = true then ta σ H1 D.rt else tb σ H1 D.rt) : tRet (tIf tt ta tb) D σ H := h
section
variable {P : Program} {w : World} {K : PySem.W.Frag} {mg : Str → Option Value} {base : Heap}
theorem rd_of (T : Txt K mg) (k : Nat) (ok_ri : FnOk P w K mg base CX0 (10 + 2 * k + 1) T.d__law_read_inner.a T.d__law_read_inner.fd ["_law_words_here", "_law_at", "_law_room", "_law_owed", "_law_kind"] (spLri k)) : FnOk P w K mg base CX0 (10 + 2 * k + 1 + 1) T.d__law_read.a T.d__law_read.fd ["_law_words_here", "_law_at", "_law_room", "_law_owed"] (spLrd (k + 1)) := by
  refine (T.d__law_read.F.ok (k := 10 + 2 * k + 1) sc__law_read (fun vs H Q E h => ?_) fun cdv A outer s H vs Q E hr h => ?_)
  · obtain ⟨lw, r, ws, a, s, t, p, o, rfl, _⟩ := h
    rfl
  · obtain ⟨lw, r, ws, a, s', t, p, o, rfl, hw, wl, hrm, s16, t48, p97, al, tk, kk⟩ := h
    refine ⟨_, (pss_cons (ps_set (i := 4) sc__law_read.nd rfl (Or.inl rfl) (pe_call (ok__law_word T) (hr.mono (by omega)) (by rfl) T.d__law_word.g T.d__law_word.F.kp T.d__law_word.b .nil pass0 (pa_cons (pv 0) (pa_cons (pv 1) pa_nil))))
      (pss_cons (ps_set (i := 5) sc__law_read.nd rfl (Or.inl rfl) (pe_op op_mulW pe_int (pe_callTy call_int1 (by rfl) T.n_int (by decide +kernel) (pa_cons (pe_cmpR op_eq (pv 4) pe_str (nomark _)) pa_nil))))
      (pss_cons (ps_if (PW.pt (pw_or (pt_cmpR op_notIn_seq (pv 4) (pe_tup (pa_cons pe_str (pa_cons pe_str (pa_cons pe_str pa_nil)))) (by rfl)) (pw_or (pt_cmpR op_lt (pe_callB (cr_min rfl) (by rfl) T.n_min (by decide +kernel) (pa_cons (pe_slice sl_list (pv 2) (po_some pe_int) po_none) pa_nil)) (pe_op op_add (pe_op op_add pe_int (pv 5)) (pv 3)) (nomark _)) (pw_or1 (PW.pt (pw_and (pt_cmpR op_eq (pv 4) pe_str (nomark _)) (pw_and1 (pt_cmpR op_eq (pe_ix ix_list (pv 2) pe_int (fun _ _ => rfl)) pe_int (nomark _))))))))) (pss_one (ps_ret (pe_lst (pa_cons (pv 1) pa_nil)))) pss_nil)
      (pss_cons (ps_set (i := 2) sc__law_read.nd rfl (Or.inl rfl) (pe_lst (pa_cons (pe_op op_sub (pe_ix ix_list (pv 2) pe_int (fun _ _ => rfl)) (pe_callTy call_int1 (by rfl) T.n_int (by decide +kernel) (pa_cons (pe_cmpR op_eq (pv 4) pe_str (nomark _)) pa_nil))) (pa_cons (pe_op op_sub (pe_ix ix_list (pv 2) pe_int (fun _ _ => rfl)) pe_int) (pa_cons (pe_op op_sub (pe_ix ix_list (pv 2) pe_int (fun _ _ => rfl)) pe_int) pa_nil)))))
      (pss_cons (ps_if (pt_cmpR op_eq (pv 4) pe_str (nomark _)) (pss_one (ps_ret (pe_lst (pa_cons (pe_op op_add (pv 1) pe_int) (pa_cons (pv 2) pa_nil))))) pss_nil)
      (pss_cons (ps_if (PW.pt (pw_and (pt_cmpR op_eq (pv 4) pe_str (nomark _)) (pw_and1 (pt_not (pt_val (pe_call (ok__law_is_number T) (hr.mono (by omega)) (by rfl) T.d__law_is_number.g T.d__law_is_number.F.kp T.d__law_is_number.b .nil pass0 (pa_cons (pe_call (ok__law_word T) (hr.mono (by omega)) (by rfl) T.d__law_word.g T.d__law_word.F.kp T.d__law_word.b .nil pass0 (pa_cons (pv 0) (pa_cons (pe_op op_add (pv 1) pe_int) pa_nil))) (pa_cons pe_bl pa_nil)))))))) (pss_one (ps_ret (pe_lst (pa_cons (pe_op op_add (pv 1) pe_int) pa_nil)))) pss_nil)
      (pss_cons (ps_set (i := 1) sc__law_read.nd rfl (Or.inl rfl) (pe_op op_add (pe_op op_add (pv 1) pe_int) (pe_callTy call_int1 (by rfl) T.n_int (by decide +kernel) (pa_cons (pe_cmpR op_eq (pv 4) pe_str (nomark _)) pa_nil))))
      (pss_one (ps_ret (pe_ifExp (pt_cmpR op_eq (pe_call (ok__law_word T) (hr.mono (by omega)) (by rfl) T.d__law_word.g T.d__law_word.F.kp T.d__law_word.b .nil pass0 (pa_cons (pv 0) (pa_cons (pv 1) pa_nil))) pe_str (nomark _)) (pe_call (ok_ri) (hr.mono (by first | decide | omega)) (by rfl) T.d__law_read_inner.g T.d__law_read_inner.F.kp T.d__law_read_inner.b .nil pass0 (pa_cons (pv 0) (pa_cons (pe_op op_add (pv 1) pe_int) (pa_cons (pv 2) (pa_cons (pv 3) (pa_cons (pv 4) pa_nil)))))) (pe_lst (pa_cons (pv 1) pa_nil)))))))))))), ?_⟩
    refine n_seq ?_
    refine s_asgP (P := fun v _ => v = .str (wordAt ws a)) (ep_ev (ev_wd (ev_var rfl) (ev_var rfl) hw)) fun v H1 e1 hv => ?_
    subst hv
    dsimp only
    refine n_seq ?_
    refine s_asgP (P := fun v _ => v = .int (((if wordAt ws a = wAll then 2 else 0 : Nat)) : Int)) (fun H2 e Q kq => ⟨_, rfl, rfl, .inr ⟨_, rfl, 2, _, rfl, rfl, ?_, kq _ _ (Ex.refl _) ?_⟩⟩) fun v H2 e2 hv => ?_
    · by_cases c : decide (V.str (wordAt ws a) = V.str "all") = true
      · rw [if_pos c]
        exact mulW (a := 2) (b := 2) (by decide) (by decide) (by decide)
      · rw [if_neg c]
        exact mulW (a := 2) (b := 2) (by decide) (by decide) (by decide)
    · show V.int (2 * (if decide (V.str (wordAt ws a) = V.str "all") = true then 1 else 0)) = V.int (((if wordAt ws a = wAll then 2 else 0 : Nat)) : Int)
      have hd : decide (V.str (wordAt ws a) = V.str "all") = decide (wordAt ws a = wAll) := dS
      rw [hd]
      by_cases c : wordAt ws a = wAll
      · rw [decide_eq_true c, if_pos rfl, if_pos c]
        rfl
      · rw [decide_eq_false c, if_neg c]
        rfl
    subst hv
    have ex2 := e1.trans e2
    have hw2 := ex2 _ _ hw
    have hr2 := ex2 _ _ hrm
    dsimp only
    refine n_seq ?_
    have tst : ∀ {G : Hp} {σ : L2.St} (y : Str), σ[4]? = some (some (.str (wordAt ws a))) → EvT (tTest (tOp rEq (tVar 4) (tC (.str y)))) σ G (decide (wordAt ws a = y)) := fun y h4 => et_is (et_test (ev_op (ev_var h4) ev_c (rv_eq rfl))) dS
    have inE : ∀ {G : Hp} {σ : L2.St}, σ[4]? = some (some (.str (wordAt ws a))) → EvT (tTest (tOp (rIn K true) (tVar 4) (tTup (tCons (tC (.str "end")) (tCons (tC (.str "step")) (tCons (tC (.str "all")) tNil)))))) σ G (!(decide (wordAt ws a = wEnd) || (decide (wordAt ws a = wStep) || decide (wordAt ws a = wAll)))) := fun h4 H3 e Q kq => by
      refine ⟨_, h4, by show 3 ≤ sizeLine; decide, fun tt ftt => ?_⟩
      refine ⟨tt, [V.str "end", V.str "step", V.str "all"], rfl, .inr (SqT.of upd_same), rfl, rfl, _, rfl, ?_⟩
      rw [in3]
      exact kq _ (Ex.new ftt)
    have minE : ∀ {G3 : Hp} {σ : L2.St}, Ex H2 G3 → σ[2]? = some (some (.ref r)) → σ[5]? = some (some (.int (((if wordAt ws a = wAll then 2 else 0 : Nat)) : Int))) → σ[3]? = some (some (.int (o : Nat))) →
        EvT (tTest (tOp (rI0 fun i j => V.bl (decide (i < j))) (tCB (rMin K) (tCons (tSl (rSlL K) (tVar 2) (tPart (tC (.int 1))) tNoPart) tNil)) (tOp (rI0 fun i j => V.int (i + j)) (tOp (rI0 fun i j => V.int (i + j)) (tC (.int 1)) (tVar 5)) (tVar 3)))) σ G3 (decide (97 + (o : Int) - (p : Int) < 1 + ((if wordAt ws a = wAll then 2 else 0 : Nat) : Int) + (o : Nat) ∨ 49 + (o : Int) - (t : Int) < 1 + ((if wordAt ws a = wAll then 2 else 0 : Nat) : Int) + (o : Nat))) := fun {G3 σ} e3 g2 g7 g3 H1 e Q kq => by
      refine ⟨_, g2, 1, rfl, r, _, rfl, SqL.of ((e3.trans e) _ _ hr2), fun q nq => ?_⟩
      refine ⟨q, [97 + (o : Int) - (p : Int), 49 + (o : Int) - (t : Int)], rfl, SqL.of upd_same, by show 0 < 2; decide, fun mi hmi hml => ?_⟩
      refine ⟨_, g7, 1, _, rfl, rfl, _, g3, _, _, rfl, rfl, _, _, rfl, rfl, _, rfl, ?_⟩
      generalize (((if wordAt ws a = wAll then 2 else 0 : Nat)) : Int) = mu at kq ⊢
      generalize 97 + (o : Int) - (p : Int) = x1 at hmi hml kq
      generalize 49 + (o : Int) - (t : Int) = x2 at hmi hml kq
      have em : decide (mi < 1 + mu + (o : Nat)) = decide (x1 < 1 + mu + (o : Nat) ∨ x2 < 1 + mu + (o : Nat)) := by
        have l1 := hml x1 (by simp)
        have l2 := hml x2 (by simp)
        rw [Bool.eq_iff_iff, decide_eq_true_iff, decide_eq_true_iff]
        simp only [List.mem_cons, List.not_mem_nil, or_false] at hmi
        rcases hmi with rfl | rfl
        · constructor
          · exact .inl
          · intro z; omega
        · constructor
          · exact .inr
          · intro z; omega
      rw [em]
      exact kq _ (Ex.new nq)
    have ix : ∀ {G3 : Hp} {σ : L2.St} (j : Nat) (x : Int), Ex H2 G3 → σ[2]? = some (some (.ref r)) → (roomV s' p t o)[j]? = some (.int x) → Ev (tOp (rIxL K) (tVar 2) (tC (.int (j : Int)))) σ G3 (.int x) := fun j x e3 g2 hj H1 e Q kq => ⟨_, g2, r, _, _, _, rfl, rfl, SqL.of ((e3.trans e) _ _ hr2), atI_nat hj, kq H1 (Ex.refl _)⟩
    refine s_if (b := rdBad (16 - (s' : Int)) (97 + (o : Int) - (p : Int)) (49 + (o : Int) - (t : Int)) o (wordAt ws a)) (et_is (et_or (inE rfl) fun _ => et_or (minE (Ex.refl _) rfl rfl rfl) fun _ => et_and (tst _ rfl) fun _ => et_test (ev_op (ix 0 _ (Ex.refl _) rfl rfl) ev_c (rv_eq rfl))) ?_) (fun z G3 e3 => ?_) fun z G3 e3 => ?_
    · unfold rdBad
      congr 3
      rw [Bool.eq_iff_iff, decide_eq_true_iff, decide_eq_true_iff]
      exact ⟨fun z => by injection z, fun z => by rw [z]⟩
    · refine ⟨_, rfl, by show 1 ≤ sizeLine; decide, fun l fl => ?_⟩
      have xl := Ex.new (o := .lst [V.int (a : Nat)]) fl
      refine kk (.ref l) _ ((ex2.trans e3).trans xl) ?_
      rw [rdL_bad s16 t48 z]
      exact ⟨l, rfl, upd_same⟩
    · obtain ⟨p96, hc⟩ := rdL_go s16 z
      unfold rdL at kk
      rw [if_pos p96] at kk
      unfold rdT at kk
      have q1 : ws[a]? = some wStep ↔ wordAt ws a = wStep := (wordAt_iff (by decide +kernel)).symm
      have q2 : ws[a]? = some wAll ↔ wordAt ws a = wAll := (wordAt_iff (by decide +kernel)).symm
      have q3 : ws[a]? = some wEnd ↔ wordAt ws a = wEnd := (wordAt_iff (by decide +kernel)).symm
      have n1 : (wStep : Str) ≠ wAll := by decide +kernel
      have n2 : (wEnd : Str) ≠ wAll := by decide +kernel
      have n3 : (wEnd : Str) ≠ wStep := by decide +kernel
      have n4 : (wO : Str) ≠ "" := by decide +kernel
      have ex3 := ex2.trans e3
      have hw3 := ex3 _ _ hw
      refine n_next ?_
      dsimp only
      refine n_seq ?_
      refine s_asgP (P := fun v G => ∃ r2, v = .ref r2 ∧ G r2 = some (.lst (roomV (s' + (if wordAt ws a = wStep then 1 else 0)) (p + 1) (t + 1) o))) (fun H1 e Q kq => ?_) fun v G4 e4 hv => ?_
      · refine (ix 0 _ e3 rfl rfl) H1 e _ fun Ha ea => ?_
        refine ⟨_, rfl, rfl, .inr ⟨_, rfl, _, _, rfl, rfl, ?_⟩⟩
        refine (ix 1 _ e3 rfl rfl) Ha (e.trans ea) _ fun Hb eb => ?_
        refine ⟨_, _, rfl, rfl, ?_⟩
        refine (ix 2 _ e3 rfl rfl) Hb ((e.trans ea).trans eb) _ fun Hc ec => ?_
        refine ⟨_, _, rfl, rfl, ?_⟩
        refine ⟨by show 3 ≤ sizeLine; decide, fun l fl => kq (.ref l) _ ((ea.trans (eb.trans ec)).trans (Ex.new fl)) ⟨l, rfl, upd_same.trans ?_⟩⟩
        have hd : decide (V.str (wordAt ws a) = V.str "step") = decide (wordAt ws a = wStep) := dS
        show some (HO.lst [V.int ((16 - (s' : Int)) - (if decide (V.str (wordAt ws a) = V.str "step") = true then 1 else 0)), V.int ((97 + (o : Int) - (p : Int)) - 1), V.int ((49 + (o : Int) - (t : Int)) - 1)]) = _
        rw [hd]
        unfold roomV
        have f0 : (16 - (s' : Int)) - (if decide (wordAt ws a = wStep) = true then 1 else 0) = 16 - ((s' + (if wordAt ws a = wStep then 1 else 0) : Nat) : Int) := by
          by_cases c : wordAt ws a = wStep
          · rw [decide_eq_true c, if_pos rfl, if_pos c]
            omega
          · rw [decide_eq_false c, if_neg (by decide), if_neg c]
            omega
        have f1 : (97 + (o : Int) - (p : Int)) - 1 = 97 + (o : Int) - ((p + 1 : Nat) : Int) := by omega
        have f2 : (49 + (o : Int) - (t : Int)) - 1 = 49 + (o : Int) - ((t + 1 : Nat) : Int) := by omega
        rw [f0, f1, f2]
      obtain ⟨r2, rfl, hr4⟩ := hv
      have hw4 := e4 _ _ hw3
      have ex4 := ex3.trans e4
      dsimp only
      refine n_seq ?_
      refine s_if (tst _ rfl) (fun ze G5 e5 => ?_) fun ze G5 e5 => ?_
      · have w0 : wordAt ws a = wEnd := of_decide_eq_true ze
        rw [if_neg (fun y => n3 (w0.symm.trans (q1.mp y))), if_neg (fun y => n2 (w0.symm.trans (q2.mp y))), if_pos (q3.mpr w0)] at kk
        rw [if_neg (fun y => n3 (w0.symm.trans y)), Nat.add_zero] at hr4
        refine ⟨_, rfl, _, _, rfl, rfl, _, rfl, by show 2 ≤ sizeLine; decide, fun l fl => ?_⟩
        have xl := Ex.new (o := .lst [V.int ((a + 1 : Nat) : Int), .ref r2]) fl
        exact kk (.ref l) _ ((ex4.trans e5).trans xl) ⟨l, r2, rfl, upd_same, (e5.trans xl) _ _ hr4⟩
      have ne : ¬ wordAt ws a = wEnd := of_decide_eq_false ze
      refine n_next ?_
      refine n_seq ?_
      have hw5 := e5 _ _ hw4
      have hr5 := e5 _ _ hr4
      have ex5 := ex4.trans e5
      have numE : ∀ {σ : L2.St}, σ[0]? = some (some (.ref lw)) → σ[1]? = some (some (.int (a : Nat))) → Ev (tCall spNumL [] E0 (tCons (tCall spWd [] E0 (tCons (tVar 0) (tCons (tOp (rI0 fun i j => V.int (i + j)) (tVar 1) (tC (.int 1))) tNil))) (tCons (tC (.bl false)) tNil))) σ G5 (.bl (numAt ws (a + 1))) := fun {σ} g0 g1 H1 e Q kq => by
        refine (ev_wd (a := a + 1) (ev_var g0) (ev_is (ev_op (ev_var g1) ev_c rv_I0) rfl) hw5) H1 e _ fun H2 e2 => ?_
        have wo := wordAt_ok wl (a + 1)
        refine ⟨wordAt ws (a + 1), false, rfl, wo.1, wo.2, fun H3 e3 => ?_⟩
        have := kq H3 (e2.trans e3)
        rw [numAt_w] at this
        exact this
      refine s_if (b := decide (wordAt ws a = wStep) && !numAt ws (a + 1)) (et_is (et_and (tst _ rfl) fun _ => et_not (et_B (numE rfl rfl))) rfl) (fun zn G6 e6 => ?_) fun zn G6 e6 => ?_
      · rw [Bool.and_eq_true, decide_eq_true_iff, Bool.not_eq_true'] at zn
        obtain ⟨w0, nb⟩ := zn
        have s1 : s' + 1 ≤ 16 := by
          rcases hc with y | y | y
          · exact absurd y ne
          · exact y.2
          · exact absurd (w0.symm.trans y.1) n1
        rw [if_pos (q1.mpr w0), if_pos s1, if_neg (by rw [nb]; decide)] at kk
        refine ⟨_, rfl, _, _, rfl, rfl, by show 1 ≤ sizeLine; decide, fun l fl => ?_⟩
        exact kk (.ref l) _ ((ex5.trans e6).trans (Ex.new fl)) ⟨l, rfl, upd_same⟩
      refine n_next ?_
      dsimp only
      refine n_seq ?_
      have hw6 := e6 _ _ hw5
      have hr6 := e6 _ _ hr5
      have ex6 := ex5.trans e6
      refine s_asgP (P := fun v _ => v = .int ((a + 1 + (if wordAt ws a = wStep then 1 else 0) : Nat) : Int)) (fun H1 e Q kq => ⟨_, rfl, _, _, rfl, rfl, _, rfl, rfl, .inr ⟨_, rfl, _, _, rfl, rfl, kq _ _ (Ex.refl _) ?_⟩⟩) fun v G7 e7 hv => ?_
      · have hd : decide (V.str (wordAt ws a) = V.str "step") = decide (wordAt ws a = wStep) := dS
        show V.int (((a : Nat) : Int) + 1 + (if decide (V.str (wordAt ws a) = V.str "step") = true then 1 else 0)) = _
        rw [hd]
        by_cases c : wordAt ws a = wStep
        · rw [decide_eq_true c, if_pos rfl, if_pos c]
          rfl
        · rw [decide_eq_false c, if_neg (by decide), if_neg c]
          rfl
      subst hv
      have hw7 := e7 _ _ hw6
      have hr7 := e7 _ _ hr6
      have ex7 := ex6.trans e7
      dsimp only
      refine t_retIf ?_
      refine (et_is (et_test (ev_op (ev_wd (a := a + 1 + (if wordAt ws a = wStep then 1 else 0)) (ev_var rfl) (ev_var rfl) hw7) ev_c (rv_eq rfl))) dS) G7 (Ex.refl _) _ fun G8 e8 => ?_
      have hw8 := e8 _ _ hw7
      have hr8 := e8 _ _ hr7
      have ex8 := ex7.trans e8
      have qo : ∀ i, ws[i]? = some wO ↔ wordAt ws i = wO := fun i => (wordAt_iff n4).symm
      rcases hc with y | ⟨w0, s1⟩ | ⟨w0, t1, p1⟩
      · exact absurd y ne
      · have nb : numAt ws (a + 1) = true := by
          cases hn : numAt ws (a + 1) with
          | true => rfl
          | false =>
            rw [decide_eq_true w0, hn] at zn
            cases zn
        rw [if_pos (q1.mpr w0), if_pos s1, if_pos nb] at kk
        have al1 : a + 1 + 1 ≤ ws.length := by
          unfold numAt at nb
          cases hx : ws[a + 1]? with
          | none => rw [hx] at nb; cases nb
          | some x => exact get_lt hx
        rw [if_pos w0] at hr8 ⊢
        by_cases ho : wordAt ws (a + 1 + 1) = wO
        · refine ifT' (decide_eq_true ho) ?_
          rw [if_pos ((qo _).mpr ho)] at kk
          exact ⟨_, rfl, _, rfl, _, _, rfl, rfl, _, rfl, _, rfl, _, rfl, lw, r2, ws, a + 1 + 1 + 1, s' + 1, t, p, o, wordAt ws a, _, _, rfl, hw8, wl, hr8, .inl ⟨w0, rfl, rfl⟩, s1, t48, p96, get_lt ((qo _).mpr ho), by omega, (fun y => absurd (w0.symm.trans y) n1), fun v H' e lr => kk v H' (ex8.trans e) lr⟩
        · refine ifF' (decide_eq_false ho) ?_
          rw [if_neg (fun y => ho ((qo _).mp y))] at kk
          refine ⟨_, rfl, by show 1 ≤ sizeLine; decide, fun l fl => ?_⟩
          exact kk (.ref l) _ (ex8.trans (Ex.new fl)) ⟨l, rfl, upd_same⟩
      · have nS : ¬ wordAt ws a = wStep := fun y => n1 (y.symm.trans w0)
        rw [if_neg (fun y => nS (q1.mp y)), if_pos (q2.mpr w0), if_pos ⟨t1, p1⟩] at kk
        rw [if_neg nS, Nat.add_zero] at hr8
        rw [if_neg nS, Nat.add_zero]
        by_cases ho : wordAt ws (a + 1) = wO
        · refine ifT' (decide_eq_true ho) ?_
          rw [if_pos ((qo _).mpr ho)] at kk
          exact ⟨_, rfl, _, rfl, _, _, rfl, rfl, _, rfl, _, rfl, _, rfl, lw, r2, ws, a + 1 + 1, s', t + 2, p + 2, o, wordAt ws a, _, _, rfl, hw8, wl, hr8, .inr (.inl ⟨w0, rfl, (room_eq s' (p + 1) (t + 1) o).symm, rfl⟩), s16, t1, p1, get_lt ((qo _).mpr ho), by omega, (fun _ => by omega), fun v H' e lr => kk v H' (ex8.trans e) lr⟩
        · refine ifF' (decide_eq_false ho) ?_
          rw [if_neg (fun y => ho ((qo _).mp y))] at kk
          refine ⟨_, rfl, by show 1 ≤ sizeLine; decide, fun l fl => ?_⟩
          exact kk (.ref l) _ (ex8.trans (Ex.new fl)) ⟨l, rfl, upd_same⟩
theorem ok__law_read (T : Txt K mg) : ∀ k, FnOk P w K mg base CX0 (10 + 2 * k) T.d__law_read.a T.d__law_read.fd ["_law_words_here", "_law_at", "_law_room", "_law_owed"] (spLrd k)
  | 0 => by
    refine (T.d__law_read.F.ok (k := 9) sc__law_read (fun vs H Q E h => ?_) fun cdv A outer s H vs Q E hr h => ?_)
    · obtain ⟨lw, r, ws, a, s, t, p, o, rfl, _⟩ := h
      rfl
    · obtain ⟨lw, r, ws, a, s', t, p, o, rfl, hw, wl, hrm, s16, t48, p97, al, tk, kk⟩ := h
      omega
  | k + 1 => rd_of T k (ri_of T k (ok__law_read T k))
end
/-! ### where the law finds a text of a term bad -/
def badV (r : Option Nat) : List V := match r with
  | some i => [.int (i : Nat)]
  | none => []
def spBad (f : List Str → Option Nat) : Sp := fun vs H Q _ => ∃ (lw : Addr) (ws : List Str), vs = [.ref lw] ∧ H lw = some (.lst (ws.map V.str)) ∧ WsL ws ∧ ∀ l H', Ex H H' → H' l = some (.lst (badV (f ws))) → Q (.ref l) H'
section
variable {P : Program} {w : World} {K : PySem.W.Frag} {mg : Str → Option Value} {base : Heap}
theorem ok__law_bad_term (T : Txt K mg) : FnOk P w K mg base CX0 111 T.d__law_bad_term.a T.d__law_bad_term.fd ["_law_words_here"] (spBad badT) := by
  refine T.d__law_bad_term.F.ok sc__law_bad_term (fun vs H Q E h => ?_) (fun cdv A outer s H vs Q E hr h => ?_)
  · obtain ⟨lw, ws, rfl, _⟩ := h
    rfl
  · obtain ⟨lw, ws, rfl, hw, wl, kk⟩ := h
    refine ⟨_, (pss_cons (ps_set (i := 1) sc__law_bad_term.nd rfl (Or.inl rfl) (pe_call (ok__law_read T 50) (hr.mono (by first | decide | omega)) (by rfl) T.d__law_read.g T.d__law_read.F.kp T.d__law_read.b .nil pass0 (pa_cons (pv 0) (pa_cons pe_int (pa_cons (pe_lst (pa_cons pe_int (pa_cons pe_int (pa_cons pe_int pa_nil)))) (pa_cons pe_int pa_nil))))))
      (pss_one (ps_ret (pe_ifExp (pt_cmpR op_eq (pe_callB call_len_seq (by rfl) T.n_len (by decide +kernel) (pa_cons (pv 1) pa_nil)) pe_int (nomark _)) (pv 1) (pe_ifExp (pt_cmpR op_lt (pe_ix ix_list (pv 1) pe_int (fun _ _ => rfl)) (pe_callB call_len_seq (by rfl) T.n_len (by decide +kernel) (pa_cons (pv 0) pa_nil)) (nomark _)) (pe_lst (pa_cons (pe_ix ix_list (pv 1) pe_int (fun _ _ => rfl)) pa_nil)) (pe_lst pa_nil)))))), ?_⟩
    refine n_seq ?_
    refine s_asgP (P := fun v G => LR 0 G v (rdT 50 ws 0 0 1 1)) (fun H1 e Q kq => ?_) fun v H1 e1 hv => ?_
    · refine t_call4 ?_
      refine ⟨_, rfl, ?_⟩
      refine ⟨by show 3 ≤ sizeLine; decide, fun l fl => ?_⟩
      have xl := Ex.new (o := .lst [V.int 16, V.int 96, V.int 48]) fl
      refine ⟨lw, l, ws, 0, 0, 1, 1, 0, rfl, (e.trans xl) _ _ hw, wl, upd_same, by decide, by decide, by decide, Nat.zero_le _, by decide, fun v H4 e4 lr => kq v H4 (xl.trans e4) ?_⟩
      unfold rdL at lr
      rw [if_pos (by decide)] at lr
      exact lr
    have eb : badT ws = rdE ws (rdT 50 ws 0 0 1 1) := by
      unfold badT rdW
      rw [if_pos (by decide)]
    rw [eb] at kk
    have hw1 := e1 _ _ hw
    dsimp only
    refine t_retIf ?_
    cases hq : rdT 50 ws 0 0 1 1 with
    | bad i =>
      rw [hq] at hv kk
      obtain ⟨l, rfl, hl⟩ := hv
      refine (et_is (b := true) (et_test (ev_op (fun H1 e Q kq => ⟨_, rfl, l, _, rfl, .inl (SqL.of (e _ _ hl)), kq H1 (Ex.refl _)⟩) ev_c (rv_eq rfl))) (decide_eq_true rfl)) H1 (Ex.refl _) _ fun G5 e5 => ifT' rfl ?_
      exact ⟨_, rfl, kk l G5 (e1.trans e5) (e5 _ _ hl)⟩
    | ok a s t p =>
      rw [hq] at hv kk
      obtain ⟨l, r2, rfl, hl, _⟩ := hv
      refine (et_is (b := false) (et_test (ev_op (fun H1 e Q kq => ⟨_, rfl, l, _, rfl, .inl (SqL.of (e _ _ hl)), kq H1 (Ex.refl _)⟩) ev_c (rv_eq rfl))) (decide_eq_false (fun y => by injection y with y; cases y))) H1 (Ex.refl _) _ fun G5 e5 => ifF' rfl ?_
      have hl5 := e5 _ _ hl
      have hw5 := e5 _ _ hw1
      have ix : ∀ {G3 : Hp} {σ : L2.St}, Ex G5 G3 → σ[1]? = some (some (.ref l)) → Ev (tOp (rIxL K) (tVar 1) (tC (.int 0))) σ G3 (.int (a : Nat)) := fun e3 g2 H1 e Q kq => ⟨_, g2, l, _, 0, _, rfl, rfl, SqL.of ((e3.trans e) _ _ hl5), atI_nat (j := 0) rfl, kq H1 (Ex.refl _)⟩
      refine (et_is (b := decide ((a : Int) < ((ws.length : Nat) : Int))) (et_test (ev_op (ix (Ex.refl _) rfl) (fun H1 e Q kq => ⟨_, rfl, lw, _, rfl, .inl (SqL.of (e _ _ hw5)), by rw [List.length_map]; exact kq H1 (Ex.refl _)⟩) rv_I0)) rfl) G5 (Ex.refl _) _ fun G6 e6 => ?_
      by_cases c : a < ws.length
      · refine ifT' (decide_eq_true (by omega)) ?_
        refine (ix e6 rfl) G6 (Ex.refl _) _ fun G7 e7 => ⟨by show 1 ≤ sizeLine; decide, fun l2 fl2 => ?_⟩
        have x2 := Ex.new (o := .lst [V.int (a : Nat)]) fl2
        refine kk l2 _ ((e1.trans e5).trans ((e6.trans e7).trans x2)) ?_
        have er : rdE ws (.ok a s t p) = some a := if_pos c
        rw [er]
        exact upd_same
      · refine ifF' (decide_eq_false (by omega)) ?_
        refine ⟨by show 0 ≤ sizeLine; decide, fun l2 fl2 => ?_⟩
        refine kk l2 _ ((e1.trans e5).trans (e6.trans (Ex.new fl2))) ?_
        have er : rdE ws (.ok a s t p) = none := if_neg c
        rw [er]
        exact upd_same
end
/-! ### where the law finds a text of a mix bad -/
/-- what is left to read of a mix's words, at the count c -/
def MxS (ws : List Str) (c a s p : Nat) (res : Rd) : Prop :=
  (c = 0 ∧ a = 2 ∧ s = 0 ∧ p = 0 ∧ (match rdW ws 2 0 0 with | .bad i => Rd.bad i | .ok a s t p => rdN ws 3 a s t p) = res) ∨ (1 ≤ c ∧ ∃ t, rdN ws (4 - c) a s t p = res)
theorem mx_end {ws : List Str} {c a s p : Nat} {res : Rd} (h : MxS ws c a s p res) (c1 : c ≠ 0) (hx : ws[a]? = some wC) : ∃ t, res = .ok (a + 1) s t p := by
  rcases h with ⟨h, _⟩ | ⟨_, t, h⟩
  · exact absurd h c1
  · refine ⟨t, ?_⟩
    cases hn : 4 - c with
    | zero =>
      rw [hn] at h
      unfold rdN rdC at h
      rw [if_pos hx] at h
      exact h.symm
    | succ n =>
      rw [hn] at h
      unfold rdN at h
      rw [if_pos hx] at h
      exact h.symm
theorem mx_four {ws : List Str} {a s p : Nat} {res : Rd} (h : MxS ws 4 a s p res) (hx : ws[a]? ≠ some wC) : res = .bad a := by
  rcases h with ⟨h, _⟩ | ⟨_, t, h⟩
  · cases h
  · rw [show 4 - 4 = 0 from rfl] at h
    unfold rdN rdC at h
    rw [if_neg hx] at h
    exact h.symm
theorem mx_go {ws : List Str} {c a s p : Nat} {res : Rd} (h : MxS ws c a s p res) (c4 : c < 4) (hx : c = 0 ∨ ws[a]? ≠ some wC) : (∀ i, rdW ws a s p = .bad i → res = .bad i) ∧ (∀ a2 s2 t2 p2, rdW ws a s p = .ok a2 s2 t2 p2 → MxS ws (c + 1) a2 s2 p2 res) := by
  rcases h with ⟨rfl, rfl, rfl, rfl, h⟩ | ⟨c1, t, h⟩
  · refine ⟨fun i hi => ?_, fun a2 s2 t2 p2 hi => .inr ⟨by omega, t2, ?_⟩⟩
    · rw [hi] at h
      exact h.symm
    · rw [hi] at h
      exact h
  · obtain ⟨n, hn⟩ : ∃ n, 4 - c = n + 1 := ⟨3 - c, by omega⟩
    have hx' : ws[a]? ≠ some wC := by
      rcases hx with z | z
      · omega
      · exact z
    rw [hn] at h
    unfold rdN at h
    rw [if_neg hx'] at h
    refine ⟨fun i hi => ?_, fun a2 s2 t2 p2 hi => .inr ⟨by omega, t2, ?_⟩⟩
    · rw [hi] at h
      exact h.symm
    · rw [hi] at h
      rw [show 4 - (c + 1) = n by omega]
      exact h
section
variable {P : Program} {w : World} {K : PySem.W.Frag} {mg : Str → Option Value} {base : Heap}
theorem ok__law_bad_mix (T : Txt K mg) : FnOk P w K mg base CX0 111 T.d__law_bad_mix.a T.d__law_bad_mix.fd ["_law_words_here"] (spBad badM) := by
  refine T.d__law_bad_mix.F.ok sc__law_bad_mix (fun vs H Q E h => ?_) (fun cdv A outer s H vs Q E hr h => ?_)
  · obtain ⟨lw, ws, rfl, _⟩ := h
    rfl
  · obtain ⟨lw, ws, rfl, hw, wl, kk⟩ := h
    refine ⟨_, (pss_cons (ps_for PassesOwn.never rfl (pi_enum (by rfl) T.n_enumerate (pa_cons (pe_lst (pa_cons pe_str (pa_cons pe_str pa_nil))) pa_nil)) (pg_tup (by rfl) (pgs_cons (pg_name (i := 1) sc__law_bad_mix.nd rfl (Or.inl rfl)) (pgs_cons (pg_name (i := 2) sc__law_bad_mix.nd rfl (Or.inl rfl)) pgs_nil))) (pss_one (ps_if (pt_cmpR op_ne (pe_call (ok__law_word T) (hr.mono (by decide)) (by rfl) T.d__law_word.g T.d__law_word.F.kp T.d__law_word.b .nil pass0 (pa_cons (pv 0) (pa_cons (pv 1) pa_nil))) (pv 2) (nomark _)) (pss_one (ps_ret (pe_lst (pa_cons (pv 1) pa_nil)))) pss_nil)))
      (pss_cons (ps_par3 (i := 1) (j := 3) (l := 4) (by rfl) sc__law_bad_mix.nd rfl rfl rfl (by decide) (by decide) (by decide) rfl rfl rfl (pa_cons pe_int (pa_cons (pe_lst (pa_cons pe_int (pa_cons pe_int (pa_cons pe_int pa_nil)))) (pa_cons pe_int pa_nil))) (by rfl))
      (pss_cons (ps_while PassesOwn.never (PW.pt (pw_or (pt_cmpR op_eq (pv 4) pe_int (nomark _)) (pw_or1 (pt_cmpR op_ne (pe_call (ok__law_word T) (hr.mono (by decide)) (by rfl) T.d__law_word.g T.d__law_word.F.kp T.d__law_word.b .nil pass0 (pa_cons (pv 0) (pa_cons (pv 1) pa_nil))) pe_str (nomark _))))) (pss_cons (ps_set (i := 5) sc__law_bad_mix.nd rfl (Or.inl rfl) (pe_ifExp (pt_cmpR op_lt (pv 4) pe_int (nomark _)) (pe_call (ok__law_read T 50) (hr.mono (by first | decide | omega)) (by rfl) T.d__law_read.g T.d__law_read.F.kp T.d__law_read.b .nil pass0 (pa_cons (pv 0) (pa_cons (pv 1) (pa_cons (pe_op op_cat (pe_slice sl_list (pv 3) po_none (po_some pe_int)) (pe_lst (pa_cons pe_int pa_nil))) (pa_cons pe_int pa_nil))))) (pe_lst (pa_cons (pv 1) pa_nil))))
      (pss_cons (ps_if (pt_cmpR op_eq (pe_callB call_len_seq (by rfl) T.n_len (by decide +kernel) (pa_cons (pv 5) pa_nil)) pe_int (nomark _)) (pss_one (ps_ret (pv 5))) pss_nil)
      (pss_cons (ps_asg (pv 5) (pg_unl (by rfl) (pgs_cons (pg_name (i := 1) sc__law_bad_mix.nd rfl (Or.inl rfl)) (pgs_cons (pg_name (i := 3) sc__law_bad_mix.nd rfl (Or.inl rfl)) pgs_nil))))
      (pss_one (ps_set (i := 4) sc__law_bad_mix.nd rfl (Or.inl rfl) (pe_op op_add (pv 4) pe_int)))))))
      (pss_one (ps_ret (pe_ifExp (pt_cmpR op_lt (pe_op op_add (pv 1) pe_int) (pe_callB call_len_seq (by rfl) T.n_len (by decide +kernel) (pa_cons (pv 0) pa_nil)) (nomark _)) (pe_lst (pa_cons (pe_op op_add (pv 1) pe_int) pa_nil)) (pe_lst pa_nil))))))), ?_⟩
    have n1 : (wMix : Str) ≠ "" := by decide +kernel
    have n2 : (wO : Str) ≠ "" := by decide +kernel
    have n3 : (wC : Str) ≠ "" := by decide +kernel
    have q0 : ∀ i, ws[i]? = some wMix ↔ wordAt ws i = wMix := fun i => (wordAt_iff n1).symm
    have q1 : ∀ i, ws[i]? = some wO ↔ wordAt ws i = wO := fun i => (wordAt_iff n2).symm
    have q3 : ∀ i, ws[i]? = some wC ↔ wordAt ws i = wC := fun i => (wordAt_iff n3).symm
    refine n_seq ?_
    refine ⟨by show 2 ≤ sizeLine; decide, fun lz flz => ?_⟩
    have xz := Ex.new (o := .lst [V.str "mix", V.str "("]) flz
    refine ⟨lz, [V.str wMix, V.str wO], rfl, SqL.of upd_same, ?_⟩
    refine for_it (walk_enum (K := K) (a := lz) (xs := [V.str wMix, V.str wO])) (fun i σ G => ∃ (y1 y2 : Option V), σ = [some (.ref lw), y1, y2, none, none, none] ∧ Ex H G ∧ G lz = some (.lst [V.str wMix, V.str wO]) ∧ (1 ≤ i → ws[0]? = some wMix) ∧ (2 ≤ i → ws[1]? = some wO)) ⟨none, none, rfl, xz, upd_same, fun z => absurd z (by decide), fun z => absurd z (by decide)⟩ (fun i σ G _ h => by
      obtain ⟨_, _, _, _, h, _⟩ := h
      exact SqL.of h) ?_ ?_
    · rintro i x σ G G' hi ⟨y1, y2, rfl, ex, hlz, hm, ho⟩ ⟨T0, x1', x2, rfl, nT, rfl, e1', e2⟩
      cases e1'
      have i2 : i < 2 := hi
      have xT := Ex.new (o := .tup [V.int (i : Nat), x2]) nT
      refine ⟨T0, _, rfl, SqT.of upd_same, rfl, _, _, rfl, _, _, rfl, rfl, ?_⟩
      generalize upd G T0 (.tup [V.int (i : Nat), x2]) = G1 at xT
      dsimp only
      have hwG := (ex.trans xT) _ _ hw
      obtain ⟨wx, hwx⟩ : ∃ wx, x2 = V.str wx ∧ ((i = 0 ∧ wx = wMix) ∨ (i = 1 ∧ wx = wO)) := by
        match i, i2, e2 with
        | 0, _, h => cases h; exact ⟨_, rfl, .inl ⟨rfl, rfl⟩⟩
        | 1, _, h => cases h; exact ⟨_, rfl, .inr ⟨rfl, rfl⟩⟩
      obtain ⟨rfl, hwx⟩ := hwx
      refine s_if (b := !decide (wordAt ws i = wx)) (et_is (et_test (ev_op (ev_wd (a := i) (ev_var rfl) (ev_var rfl) hwG) (ev_var rfl) (rv_ne rfl))) (by rw [dS])) (fun z G3 e3 => ?_) fun z G3 e3 => ?_
      · rw [Bool.not_eq_true', decide_eq_false_iff_not] at z
        refine ⟨_, rfl, by show 1 ≤ sizeLine; decide, fun l fl => ?_⟩
        refine kk l _ (ex.trans (xT.trans (e3.trans (Ex.new fl)))) ?_
        have eb : badM ws = some i := by
          unfold badM rdMix
          rcases hwx with ⟨rfl, rfl⟩ | ⟨rfl, rfl⟩
          · rw [if_neg (fun y => z ((q0 0).mp y))]
            rfl
          · rw [if_pos (hm (by decide)), if_neg (fun y => z ((q1 1).mp y))]
            rfl
        rw [eb]
        exact upd_same
      · rw [Bool.not_eq_false', decide_eq_true_iff] at z
        refine n_next ⟨_, _, rfl, ex.trans (xT.trans e3), (xT.trans e3) _ _ hlz, fun _ => ?_, fun i1 => ?_⟩
        · rcases hwx with ⟨rfl, rfl⟩ | ⟨rfl, rfl⟩
          · exact (q0 0).mpr z
          · exact hm (by decide)
        · rcases hwx with ⟨rfl, rfl⟩ | ⟨rfl, rfl⟩
          · omega
          · exact (q1 1).mpr z
    · rintro σ G ⟨y1, y2, rfl, ex, _, hm, ho⟩
      have w0 := hm (by decide)
      have w1 := ho (by decide)
      clear hm ho xz flz
      dsimp only
      refine n_seq ?_
      refine s_par3 ?_
      refine ⟨by show 3 ≤ sizeLine; decide, fun l3 fl3 => ?_⟩
      have x3 := Ex.new (o := .lst [V.int 16, V.int 96, V.int 48]) fl3
      have hr3 : (upd G l3 (.lst [V.int 16, V.int 96, V.int 48])) l3 = some (.lst (roomV 0 1 1 0)) := upd_same
      replace ex := ex.trans x3
      generalize upd G l3 (.lst [V.int 16, V.int 96, V.int 48]) = G at x3 hr3 ex
      refine ⟨_, _, _, rfl, ?_⟩
      obtain ⟨res, hres⟩ : ∃ res, res = (match rdW ws 2 0 0 with | .bad i => Rd.bad i | .ok a s t p => rdN ws 3 a s t p) := ⟨_, rfl⟩
      have eb : badM ws = rdE ws res := by
        unfold badM rdMix
        rw [if_pos w0, if_pos w1]
        exact congrArg (rdE ws) hres.symm
      rw [eb] at kk
      have al2 : 2 ≤ ws.length := get_lt w1
      dsimp only
      refine n_seq ?_
      refine while_by (fun σ G => ∃ (c a s p t' : Nat) (rr : Addr) (y2 y5 : Option V), c ≤ 4 ∧ σ = [some (.ref lw), some (.int (a : Nat)), y2, some (.ref rr), some (.int (c : Nat)), y5] ∧ Ex H G ∧ G rr = some (.lst (roomV s (p + 1) t' 0)) ∧ MxS ws c a s p res ∧ s ≤ 16 ∧ p ≤ 96 ∧ a ≤ ws.length)
        (fun σ _ => match (σ[4]? : Option (Option V)) with
          | some (some (V.int c)) => 5 - c.toNat
          | _ => 0) ⟨0, 2, 0, 0, 1, l3, _, none, by decide, rfl, ex, hr3, .inl ⟨rfl, rfl, rfl, rfl, hres.symm⟩, by decide, by decide, al2⟩ ?_ ?_
      · clear ex hr3 x3 G
        rintro σ G ⟨c, a, s', p, t', rr, y2, y5, c4, rfl, ex, hr, ms, s16, p96, al⟩
        have hwG := ex _ _ hw
        refine (et_is (b := decide ((c : Int) = 0) || !decide (wordAt ws a = wC)) (et_or (et_test (ev_op (ev_var rfl) ev_c (rv_eq rfl))) fun _ => et_test (ev_op (ev_wd (ev_var rfl) (ev_var rfl) hwG) ev_c (rv_ne rfl))) (by
          congr 1
          · rw [Bool.eq_iff_iff, decide_eq_true_iff, decide_eq_true_iff]
            exact ⟨fun z => by injection z, fun z => by rw [z]⟩
          · rw [← dS])) G (Ex.refl _) _ fun G1 e1 => ?_
        have hw1 := e1 _ _ hwG
        have hr1 := e1 _ _ hr
        have ex1 := ex.trans e1
        by_cases go : (decide ((c : Int) = 0) || !decide (wordAt ws a = wC)) = true
        · refine ifT' go ?_
          have hx : c = 0 ∨ ws[a]? ≠ some wC := by
            rw [Bool.or_eq_true, decide_eq_true_iff, Bool.not_eq_true', decide_eq_false_iff_not] at go
            rcases go with z | z
            · exact .inl (by omega)
            · exact .inr fun y => z ((q3 a).mp y)
          refine n_seq ?_
          refine s_asgP (P := fun v G => LR 0 G v (if c < 4 then rdW ws a s' p else Rd.bad a)) (ep_if (c := decide ((c : Int) < 4)) (et_is (et_test (ev_op (ev_var rfl) ev_c rv_I0)) rfl) (fun z H2 e2 Q kq => ?_) fun z H2 e2 Q kq => ?_) fun v G2 e2 hv => ?_
          · have c4' : c < 4 := by
              have := of_decide_eq_true z
              omega
            rw [if_pos c4'] at kq
            refine t_call4 ?_
            refine ⟨_, rfl, _, rfl, _, rfl, 2, rfl, rr, _, rfl, SqL.of (e2 _ _ hr1), fun q nq => ?_⟩
            have xq := Ex.new (o := .lst (cutV (roomV s' (p + 1) t' 0) none (some 2))) nq
            refine ⟨by show 1 ≤ sizeLine; decide, fun l4 fl4 => ?_⟩
            have x4 := Ex.new (o := .lst [V.int 48]) fl4
            refine ⟨q, l4, _, _, rfl, rfl, x4 _ _ upd_same, upd_same, by show 3 ≤ sizeLine; decide, fun l5 fl5 => ?_⟩
            have x5 := Ex.new (o := .lst (cutV (roomV s' (p + 1) t' 0) none (some 2) ++ [V.int 48])) fl5
            refine ⟨lw, l5, ws, a, s', 1, p + 1, 0, rfl, (xq.trans (x4.trans x5)) _ _ (e2 _ _ hw1), wl, upd_same.trans ?_, s16, by decide, by omega, al, by decide, fun v H4 e4 lr => kq v H4 (xq.trans (x4.trans (x5.trans e4))) ?_⟩
            · show some (HO.lst [V.int (16 - (s' : Int)), V.int (97 + ((0 : Nat) : Int) - ((p + 1 : Nat) : Int)), V.int 48]) = _
              rfl
            · unfold rdL at lr
              unfold rdW
              exact lr
          · have c4' : ¬ c < 4 := by
              have := of_decide_eq_false z
              omega
            rw [if_neg c4'] at kq
            exact ⟨_, rfl, by show 1 ≤ sizeLine; decide, fun l fl => kq (.ref l) _ (Ex.new fl) ⟨l, rfl, upd_same⟩⟩
          · have hw2 := e2 _ _ hw1
            have ex2 := ex1.trans e2
            have hbadE : ∀ {i : Nat}, (if c < 4 then rdW ws a s' p else Rd.bad a) = .bad i → res = .bad i := fun {i} hi => by
              by_cases c4' : c < 4
              · rw [if_pos c4'] at hi
                exact (mx_go ms c4' hx).1 i hi
              · rw [if_neg c4'] at hi
                have c44 : c = 4 := by omega
                subst c44
                cases hi
                refine mx_four ms ?_
                rcases hx with z | z
                · cases z
                · exact z
            have hokE : ∀ {a2 s2 t2 p2 : Nat}, (if c < 4 then rdW ws a s' p else Rd.bad a) = .ok a2 s2 t2 p2 → c < 4 ∧ rdW ws a s' p = .ok a2 s2 t2 p2 ∧ MxS ws (c + 1) a2 s2 p2 res := fun {a2 s2 t2 p2} hi => by
              by_cases c4' : c < 4
              · rw [if_pos c4'] at hi
                exact ⟨c4', hi, (mx_go ms c4' hx).2 _ _ _ _ hi⟩
              · rw [if_neg c4'] at hi
                cases hi
            generalize (if c < 4 then rdW ws a s' p else Rd.bad a) = rd at hv hbadE hokE
            dsimp only
            cases rd with
            | bad i =>
              obtain ⟨l, rfl, hl⟩ := hv
              have hb := hbadE rfl
              subst hb
              refine n_seq ?_
              refine s_if (b := true) (et_is (et_test (ev_op (fun H1 e Q kq => ⟨_, rfl, l, _, rfl, .inl (SqL.of (e _ _ hl)), kq H1 (Ex.refl _)⟩) ev_c (rv_eq rfl))) (decide_eq_true rfl)) (fun _ G5 e5 => ?_) fun z => nomatch z
              exact ⟨_, rfl, kk l G5 (ex2.trans e5) (e5 _ _ hl)⟩
            | ok a2 s2 t2 p2 =>
              obtain ⟨l, r2, rfl, hl, hr2⟩ := hv
              obtain ⟨c4', hq, ms2⟩ := hokE rfl
              have g2 := rdW_ok al s16 hq
              refine n_seq ?_
              refine s_if (b := false) (et_is (et_test (ev_op (fun H1 e Q kq => ⟨_, rfl, l, _, rfl, .inl (SqL.of (e _ _ hl)), kq H1 (Ex.refl _)⟩) ev_c (rv_eq rfl))) (decide_eq_false (fun y => by injection y with y; cases y))) (fun z => nomatch z) fun _ G5 e5 => ?_
              refine n_next ?_
              refine n_seq ?_
              refine ⟨_, rfl, l, _, rfl, SqL.of (e5 _ _ hl), rfl, _, _, rfl, _, _, rfl, rfl, ?_⟩
              dsimp only
              refine ⟨_, rfl, _, _, rfl, rfl, ?_⟩
              refine ⟨⟨c + 1, a2, s2, p2, t2 + 1, r2, _, _, by omega, rfl, ex2.trans e5, e5 _ _ hr2, ms2, g2.2.1, g2.2.2.2, g2.1⟩, ?_⟩
              show 5 - (((c : Nat) : Int) + 1).toNat < 5 - ((c : Nat) : Int).toNat
              omega
        · have go' : (decide ((c : Int) = 0) || !decide (wordAt ws a = wC)) = false := by simpa using go
          refine ifF' go' ?_
          rw [Bool.or_eq_false_iff, decide_eq_false_iff_not, Bool.not_eq_false', decide_eq_true_iff] at go'
          obtain ⟨t, rfl⟩ := mx_end ms (fun z => go'.1 (by omega)) ((q3 a).mpr go'.2)
          dsimp only
          refine t_retIf ?_
          refine (et_is (b := decide (((a + 1 : Nat) : Int) < ((ws.length : Nat) : Int))) (et_test (ev_op (ev_is (ev_op (ev_var rfl) ev_c rv_I0) rfl) (fun H1 e Q kq => ⟨_, rfl, lw, _, rfl, .inl (SqL.of (e _ _ hw1)), by rw [List.length_map]; exact kq H1 (Ex.refl _)⟩) rv_I0)) rfl) G1 (Ex.refl _) _ fun G6 e6 => ?_
          by_cases cl : a + 1 < ws.length
          · refine ifT' (decide_eq_true (by omega)) ?_
            refine ⟨_, rfl, _, _, rfl, rfl, by show 1 ≤ sizeLine; decide, fun l2 fl2 => ?_⟩
            have x2 := Ex.new (o := .lst [V.int ((a + 1 : Nat) : Int)]) fl2
            refine kk l2 _ (ex1.trans (e6.trans x2)) ?_
            have er : rdE ws (.ok (a + 1) s' t p) = some (a + 1) := if_pos cl
            rw [er]
            exact upd_same
          · refine ifF' (decide_eq_false (by omega)) ?_
            refine ⟨by show 0 ≤ sizeLine; decide, fun l2 fl2 => ?_⟩
            refine kk l2 _ (ex1.trans (e6.trans (Ex.new fl2))) ?_
            have er : rdE ws (.ok (a + 1) s' t p) = none := if_neg cl
            rw [er]
            exact upd_same
      · rintro σ G Q Q' hq h
        obtain ⟨x, h1, h0, b, h2, h3⟩ := h
        refine ⟨x, h1, h0, b, h2, ?_⟩
        by_cases hb : b = true
        · rw [if_pos hb] at h3 ⊢
          exact hq _ _ h3
        · rw [if_neg hb] at h3 ⊢
          obtain ⟨y0, g0, y1, g1, lw', ws', a', e1, e2, kw⟩ := h3
          refine ⟨y0, g0, y1, g1, lw', ws', a', e1, e2, fun H' e' => ?_⟩
          obtain ⟨k1, c, k2, k3⟩ := kw H' e'
          exact ⟨k1, c, k2, hq _ _ k3⟩
end
/-! ### words with something exchanged -/
theorem cut_lo (xs : List V) (n : Nat) : cutV xs (some (n : Int)) none = xs.drop n := by
  have e : HT.sIx xs.length 0 (some (n : Int)) = min n xs.length := HT.sIx_nat xs.length 0 n
  unfold cutV
  rw [e, HT.sIx_none]
  by_cases h : n ≤ xs.length
  · rw [Nat.min_eq_left h, List.take_of_length_le (by rw [List.length_drop]; omega)]
  · rw [Nat.min_eq_right (by omega), List.drop_of_length_le (Nat.le_refl _), List.drop_of_length_le (by omega)]
    simp
theorem cut_hi (xs : List V) (n : Nat) : cutV xs none (some (n : Int)) = xs.take n := by
  have e : HT.sIx xs.length xs.length (some (n : Int)) = min n xs.length := HT.sIx_nat xs.length xs.length n
  unfold cutV
  rw [e, HT.sIx_none, List.drop_zero, Nat.sub_zero]
  by_cases h : n ≤ xs.length
  · rw [Nat.min_eq_left h]
  · rw [Nat.min_eq_right (by omega), List.take_of_length_le (Nat.le_refl _), List.take_of_length_le (by omega)]
theorem cut_md (xs : List V) (n m : Nat) : ∃ k j, cutV xs (some (n : Int)) (some (m : Int)) = (xs.drop k).take j ∧ j ≤ m - n ∧ k = min n xs.length := by
  refine ⟨min n xs.length, min m xs.length - min n xs.length, ?_, by omega, rfl⟩
  have e1 : HT.sIx xs.length 0 (some (n : Int)) = min n xs.length := HT.sIx_nat xs.length 0 n
  have e2 : HT.sIx xs.length xs.length (some (m : Int)) = min m xs.length := HT.sIx_nat xs.length xs.length m
  unfold cutV
  rw [e1, e2]
/-- a word with no blank, so long at most -/
def WB (L : Nat) (x : Str) : Prop := x.length ≤ L ∧ (32 : Nat) ∉ TL.tl x ∧ PyData.strOk x = true
/-- so many words at most -/
def BW (n L : Nat) (ws : List Str) : Prop := ws.length ≤ n ∧ ∀ x ∈ ws, WB L x
instance {x : Str} {L : Nat} : Decidable (WB L x) := by unfold WB; infer_instance
theorem WB.up {L L' : Nat} {x : Str} (l : L ≤ L') (h : WB L x) : WB L' x := ⟨Nat.le_trans h.1 l, h.2⟩
theorem BW.up {n n' L L' : Nat} {ws : List Str} (a : n ≤ n') (l : L ≤ L') (h : BW n L ws) : BW n' L' ws := ⟨Nat.le_trans h.1 a, fun x hx => (h.2 x hx).up l⟩
theorem WB.app {L M : Nat} {x y : Str} (h : WB L x) (h' : WB M y) : WB (L + M) (x ++ y) := by
  refine ⟨?_, ?_, so_app h.2.2 h'.2.2⟩
  · have e : (x ++ y).length = x.length + y.length := Str.length_append ..
    rw [e]
    have := h.1
    have := h'.1
    omega
  · rw [TL.tl_append]
    intro hm
    rcases List.mem_append.mp hm with hm | hm
    · exact h.2.1 hm
    · exact h'.2.1 hm
/-- the odd words -/
def oddW : List Str := [("end" : Str), ("step" : Str), ("all" : Str), ("mix" : Str), ("(" : Str), (")" : Str), ("" : Str), ("0" : Str), ("-0" : Str), ("01" : Str), ("2/4" : Str), ("1/1" : Str), ("3/0" : Str), ("-1/2" : Str), ("1/2" : Str), ("+1" : Str), ("1_0" : Str), ("x" : Str), ("1/2/3" : Str), Txt.mul ("9" : Str) 12, Txt.mul ("9" : Str) 13, ("End" : Str), ("1.0" : Str), ("/2" : Str), ("2/" : Str), ("-" : Str), ("1/02" : Str), ("0/2" : Str), ("0/7" : Str), ("-0/3" : Str), ("1/" : Str) ++ Txt.mul ("9" : Str) 12, ("1/" : Str) ++ Txt.mul ("9" : Str) 13, ("1/1000000000003" : Str), ("01/2" : Str), ("-01" : Str), ("1/+2" : Str), ("1/-2" : Str), ("-" : Str) ++ Txt.mul ("9" : Str) 12, ("-" : Str) ++ Txt.mul ("9" : Str) 13]
theorem odd_wb : ∀ x ∈ oddW, WB 15 x := by decide +kernel
theorem nl_wb : WB 1 "\n" := by decide +kernel
theorem end_wb : WB 3 "end" := by decide +kernel
theorem mul12 : MulOk "9" 12 := ⟨by decide +kernel, by decide +kernel, by decide +kernel⟩
theorem mul13 : MulOk "9" 13 := ⟨by decide +kernel, by decide +kernel, by decide +kernel⟩
def spBent : Sp := fun vs H Q _ => ∃ (p lw : Addr) (ws : List Str) (n L : Nat), vs = [.ref p, .ref lw] ∧ Tape H p ∧ H lw = some (.lst (ws.map V.str)) ∧ BW n L ws ∧ n ≤ 900 ∧ 15 ≤ L ∧ L ≤ 900 ∧
  ∀ l us H', ExB p H H' → Tape H' p → H' l = some (.lst (us.map V.str)) → BW (n + 1) (L + 1) us → Q (.ref l) H'
theorem cl_strs : ∀ {ws : List Str}, (∀ x ∈ ws, PyData.strOk x = true) → PyData.canLayAll0 (ws.map PyData.str) = true
  | [], _ => rfl
  | x :: ws, h => by
    show (PyData.canLay0 (.str x) && PyData.canLayAll0 (ws.map PyData.str)) = true
    rw [cl_strs fun y hy => h y (List.mem_cons_of_mem _ hy), Bool.and_true]
    exact h x List.mem_cons_self
theorem dp_strs : ∀ {ws : List Str}, PyData.depthAll (ws.map PyData.str) = 0
  | [] => rfl
  | x :: ws => by
    show max (PyData.depth (.str x)) (PyData.depthAll (ws.map PyData.str)) = 0
    rw [dp_strs]
    rfl
theorem shp_strs {ws : List Str} (h : ∀ x ∈ ws, PyData.strOk x = true) : SeqAt.shaped (.list (ws.map PyData.str)) = true := by
  unfold SeqAt.shaped
  have e : (PyData.list (ws.map PyData.str)).canLay0 = true := cl_strs h
  rw [e, Bool.true_and, decide_eq_true_iff]
  show PyData.depthAll (ws.map PyData.str) + 1 ≤ 64
  rw [dp_strs]
  decide
theorem eqv_nil : ∀ {ws : List Str}, PyData.eqv (.list (ws.map PyData.str)) (.list []) = decide (ws = [])
  | [] => by simp [PyData.eqv, PyData.eqvAll]
  | x :: ws => by simp [PyData.eqv, PyData.eqvAll]
section
variable {P : Program} {w : World} {K : PySem.W.Frag} {mg : Str → Option Value} {base : Heap}
theorem ep_cat {ta tb : TE} {σ : L2.St} {G : Hp} {us vs : List Str} (ha : EvP ta σ G (WL us)) (hb : ∀ G', Ex G G' → EvP tb σ G' (WL vs)) (h : us.length + vs.length ≤ 1000) : EvP (tOp rCat ta tb) σ G (WL (us ++ vs)) := fun H1 e Q k => ha H1 e _ fun x H2 e2 hx => by
  obtain ⟨l, rfl, hl⟩ := hx
  refine hb H2 (e.trans e2) H2 (Ex.refl _) _ fun y H3 e3 hy => ?_
  obtain ⟨m, rfl, hm⟩ := hy
  refine ⟨l, m, _, _, rfl, rfl, e3 _ _ hl, hm, ?_, fun q nq => k _ _ ((e2.trans e3).trans (Ex.new nq)) ⟨q, rfl, by rw [upd_same, List.map_append]⟩⟩
  rw [List.length_map, List.length_map]
  exact Nat.le_trans h (by decide)
theorem rv_addS {x y : Str} {H : Hp} (h : x.length + y.length ≤ sizeLine) : RV (fun x y H Q => ∃ i j, x = .str i ∧ y = .str j ∧ i.length + j.length ≤ sizeLine ∧ Q (.str (i ++ j)) H) (.str x) (.str y) H (.str (x ++ y)) := fun H1 _ Q q => ⟨x, y, rfl, rfl, h, q H1 (Ex.refl H1)⟩
theorem ep_one {te : TE} {σ : L2.St} {G : Hp} {x : Str} (he : Ev te σ G (.str x)) : EvP (tLst (tCons te tNil)) σ G (WL [x]) := fun H1 e Q k => he H1 e _ fun H2 e2 => ⟨by show 1 ≤ sizeLine; decide, fun l fl => k _ _ (e2.trans (Ex.new fl)) ⟨l, rfl, upd_same⟩⟩
theorem dp_strsL {H : Hp} : ∀ {ws : List Str}, DpAll K H (ws.map V.str) (ws.map PyData.str)
  | [] => .nil
  | x :: ws => .cons (.str x) dp_strsL
theorem ok__law_bent (T : Txt K mg) : FnOk P w K mg base CX0 3 T.d__law_bent.a T.d__law_bent.fd ["_law_tape_here", "_law_words_here"] spBent := by
  refine T.d__law_bent.F.ok sc__law_bent (fun vs H Q E h => ?_) (fun cdv A outer s H vs Q E hr h => ?_)
  · obtain ⟨p, lw, ws, n, L, rfl, _⟩ := h
    rfl
  · obtain ⟨p, lw, ws, n, L, rfl, ht, hl, bw, n9, L15, L9, kk⟩ := h
    refine ⟨_, (pss_cons (ps_if (pt_cmpR (op_eqD hr.units) (pv 1) (pe_lst pa_nil) (nomark _)) (pss_one (ps_ret (pe_lst (pa_cons pe_str pa_nil)))) pss_nil)
      (pss_cons (ps_par (i := 2) (j := 3) (by rfl) sc__law_bent.nd rfl rfl (by decide) rfl rfl (pa_cons (pe_call (ok__law_pick T) (hr.mono (by decide)) (by rfl) T.d__law_pick.g T.d__law_pick.F.kp T.d__law_pick.b .nil pass0 (pa_cons (pv 0) (pa_cons (pe_callB call_len_seq (by rfl) T.n_len (by decide +kernel) (pa_cons (pv 1) pa_nil)) pa_nil))) (pa_cons (pe_call (ok__law_pick T) (hr.mono (by decide)) (by rfl) T.d__law_pick.g T.d__law_pick.F.kp T.d__law_pick.b .nil pass0 (pa_cons (pv 0) (pa_cons pe_int pa_nil))) pa_nil)) (by rfl))
      (pss_cons (ps_set (i := 4) sc__law_bent.nd rfl (Or.inl rfl) (pe_call (ok__law_one_of T) (hr.mono (by decide)) (by rfl) T.d__law_one_of.g T.d__law_one_of.F.kp T.d__law_one_of.b .nil pass0 (pa_cons (pv 0) (pa_cons (pe_lst (pa_cons pe_str (pa_cons pe_str (pa_cons pe_str (pa_cons pe_str (pa_cons pe_str (pa_cons pe_str (pa_cons pe_str (pa_cons pe_str (pa_cons pe_str (pa_cons pe_str (pa_cons pe_str (pa_cons pe_str (pa_cons pe_str (pa_cons pe_str (pa_cons pe_str (pa_cons pe_str (pa_cons pe_str (pa_cons pe_str (pa_cons pe_str (pa_cons (pe_op op_mulS pe_str pe_int) (pa_cons (pe_op op_mulS pe_str pe_int) (pa_cons pe_str (pa_cons pe_str (pa_cons pe_str (pa_cons pe_str (pa_cons pe_str (pa_cons pe_str (pa_cons pe_str (pa_cons pe_str (pa_cons pe_str (pa_cons (pe_op op_add_str pe_str (pe_op op_mulS pe_str pe_int)) (pa_cons (pe_op op_add_str pe_str (pe_op op_mulS pe_str pe_int)) (pa_cons pe_str (pa_cons pe_str (pa_cons pe_str (pa_cons pe_str (pa_cons pe_str (pa_cons (pe_op op_add_str pe_str (pe_op op_mulS pe_str pe_int)) (pa_cons (pe_op op_add_str pe_str (pe_op op_mulS pe_str pe_int)) pa_nil)))))))))))))))))))))))))))))))))))))))) pa_nil))))
      (pss_cons (ps_if (pt_cmpR op_lt (pv 3) pe_int (nomark _)) (pss_one (ps_ret (pe_op op_cat (pe_op op_cat (pe_slice sl_list (pv 1) po_none (po_some (pv 2))) (pe_lst (pa_cons (pv 4) pa_nil))) (pe_slice sl_list (pv 1) (po_some (pe_op op_add (pv 2) (pv 3))) po_none)))) pss_nil)
      (pss_cons (ps_if (pt_cmpR op_eq (pv 3) pe_int (nomark _)) (pss_one (ps_ret (pe_op op_cat (pe_slice sl_list (pv 1) po_none (po_some (pv 2))) (pe_slice sl_list (pv 1) (po_some (pe_op op_add (pv 2) pe_int)) po_none)))) pss_nil)
      (pss_cons (ps_if (pt_cmpR op_eq (pv 3) pe_int (nomark _)) (pss_one (ps_ret (pe_slice sl_list (pv 1) po_none (po_some (pv 2))))) pss_nil)
      (pss_cons (ps_if (pt_cmpR op_eq (pv 3) pe_int (nomark _)) (pss_one (ps_ret (pe_op op_cat (pv 1) (pe_lst (pa_cons (pv 4) pa_nil))))) pss_nil)
      (pss_cons (ps_if (pt_cmpR op_eq (pv 3) pe_int (nomark _)) (pss_one (ps_ret (pe_op op_cat (pe_op op_cat (pe_slice sl_list (pv 1) po_none (po_some (pv 2))) (pe_lst (pa_cons (pe_op op_add_str (pe_ix ix_list (pv 1) (pv 2) (fun _ _ => rfl)) pe_str) pa_nil))) (pe_slice sl_list (pv 1) (po_some (pe_op op_add (pv 2) pe_int)) po_none)))) pss_nil)
      (pss_cons (ps_if (pt_cmpR op_eq (pv 3) pe_int (nomark _)) (pss_one (ps_ret (pe_op op_cat (pe_op op_cat (pe_slice sl_list (pv 1) po_none (po_some (pv 2))) (pe_lst (pa_cons (pe_op op_add_str pe_str (pe_ix ix_list (pv 1) (pv 2) (fun _ _ => rfl))) pa_nil))) (pe_slice sl_list (pv 1) (po_some (pe_op op_add (pv 2) pe_int)) po_none)))) pss_nil)
      (pss_cons (ps_if (pt_cmpR op_eq (pv 3) pe_int (nomark _)) (pss_one (ps_ret (pe_op op_cat (pe_op op_cat (pe_slice sl_list (pv 1) po_none (po_some (pv 2))) (pe_revL (pe_slice sl_list (pv 1) (po_some (pv 2)) (po_some (pe_op op_add (pv 2) pe_int))))) (pe_slice sl_list (pv 1) (po_some (pe_op op_add (pv 2) pe_int)) po_none)))) pss_nil)
      (pss_one (ps_ret (pv 1))))))))))))), ?_⟩
    refine n_seq ?_
    have nlw := ht.ne hl
    refine s_if (b := decide (ws = [])) (fun H1 e Q k => ⟨_, rfl, by show 0 ≤ sizeLine; decide, fun l0 fl0 => ⟨.list (ws.map .str), .list [], .lst (SqL.of ((e.trans (Ex.new fl0)) _ _ hl)) dp_strsL, .lst (SqL.of upd_same) .nil, shp_strs fun x hx => (bw.2 x hx).2.2, by decide +kernel, _, rfl, by rw [eqv_nil]; exact k _ (Ex.new fl0)⟩⟩) (fun z G e => ?_) fun z G e => ?_
    · refine ⟨by show 1 ≤ sizeLine; decide, fun l fl => ?_⟩
      have x1 := e.trans (Ex.new (o := .lst [V.str "end"]) fl)
      exact kk l ["end"] _ (Ex.b x1) (ht.ex x1) upd_same ⟨by show 1 ≤ n + 1; omega, fun x hx => by
        rw [List.mem_singleton.mp hx]
        exact end_wb.up (by omega)⟩
    have ne : ws ≠ [] := of_decide_eq_false z
    have wpos : 0 < ws.length := List.length_pos_iff.mpr ne
    have wl := bw.1
    refine n_next ?_
    dsimp only
    refine n_seq ?_
    refine s_par ?_
    have hl1 := e _ _ hl
    refine ⟨_, rfl, _, rfl, lw, _, rfl, .inl (SqL.of hl1), p, _, rfl, ht.ex e, by rw [List.length_map]; omega, by rw [List.length_map]; omega, fun r G1 r0 r1 eb1 ht1 => ?_⟩
    rw [List.length_map] at r1
    obtain ⟨a, rfl⟩ : ∃ a : Nat, r = a := ⟨r.toNat, by omega⟩
    have al : a < ws.length := by omega
    refine ⟨_, rfl, p, _, rfl, ht1, by decide, by decide, fun r G2 r0' r1' eb2 ht2 => ?_⟩
    obtain ⟨y, rfl⟩ : ∃ y : Nat, r = y := ⟨r.toNat, by omega⟩
    refine ⟨_, _, rfl, ?_⟩
    have eb := (Ex.b e).trans (eb1.trans eb2)
    have hl2 := eb _ _ nlw hl
    clear eb1 eb2 hl1 ht1 e
    dsimp only
    refine n_seq ?_
    refine ⟨_, rfl, _, _, rfl, rfl, mul12, _, _, rfl, rfl, mul13, _, _, rfl, rfl, mul12, _, _, rfl, rfl, by show 14 ≤ sizeLine; decide, _, _, rfl, rfl, mul13, _, _, rfl, rfl, by show 15 ≤ sizeLine; decide, _, _, rfl, rfl, mul12, _, _, rfl, rfl, by show 13 ≤ sizeLine; decide, _, _, rfl, rfl, mul13, _, _, rfl, rfl, by show 14 ≤ sizeLine; decide, by show 39 ≤ sizeLine; decide, fun lo flo => ?_⟩
    have xo := Ex.new (o := .lst (oddW.map V.str)) flo
    have ht3 := ht2.ex xo
    refine ⟨p, lo, oddW.map V.str, rfl, ht3, upd_same, ht3.ne upd_same, by show 0 < 39; decide, by show 39 ≤ 1000; decide, fun j x G3 hx eb3 ht3 => ?_⟩
    rw [List.getElem?_map, Option.map_eq_some_iff] at hx
    obtain ⟨o, ho, rfl⟩ := hx
    have wo := odd_wb o (List.mem_of_getElem? ho)
    replace eb := (eb.trans (Ex.b xo)).trans eb3
    have hl3 := eb _ _ nlw hl
    clear xo eb3 ht2 hl2 flo
    dsimp only
    -- the parts of the words
    have size : ∀ k : Nat, k ≤ 1000 → k ≤ sizeLine := fun k hk => Nat.le_of_lt (small1000 hk)
    have mT : ∀ {k : Nat} {x : Str}, x ∈ ws.take k → WB L x := fun hx => bw.2 _ (List.mem_of_mem_take hx)
    have mD : ∀ {k : Nat} {x : Str}, x ∈ ws.drop k → WB L x := fun hx => bw.2 _ (List.mem_of_mem_drop hx)
    have wat : WB L ws[a] := bw.2 _ (List.getElem_mem al)
    have done : ∀ {l : Addr} {us : List Str} {G4 : Hp}, Ex G3 G4 → G4 l = some (.lst (us.map V.str)) → us.length ≤ ws.length + 1 → (∀ x ∈ us, WB (L + 1) x) → Q (.ref l) G4 := fun {l us G4} e4 h hl hx => kk l us G4 (eb.trans (Ex.b e4)) (ht3.ex e4) h ⟨by omega, hx⟩
    have tst : ∀ {G : Hp} {σ : L2.St} (c : Nat), σ[3]? = some (some (.int (y : Nat))) → EvT (tTest (tOp rEq (tVar 3) (tC (.int (c : Nat))))) σ G (decide (y = c)) := fun c h4 => et_is (et_test (ev_op (ev_var h4) ev_c (rv_eq rfl))) (by
      rw [Bool.eq_iff_iff, decide_eq_true_iff, decide_eq_true_iff]
      constructor
      · intro z
        injection z with z
        omega
      · rintro rfl
        rfl)
    have slT : ∀ {G : Hp} {σ : L2.St}, Ex G3 G → σ[1]? = some (some (.ref lw)) → σ[2]? = some (some (.int (a : Nat))) → EvP (tSl (rSlL K) (tVar 1) tNoPart (tPart (tVar 2))) σ G fun v G' => ∃ l, v = .ref l ∧ G' l = some (.lst ((ws.take a).map V.str)) := fun e4 g1 g2 H1 e Q kq => ⟨_, g1, _, g2, _, rfl, lw, _, rfl, SqL.of ((e4.trans e) _ _ hl3), fun q nq => kq _ _ (Ex.new nq) ⟨q, rfl, by rw [upd_same, cut_hi, List.map_take]⟩⟩
    have slD : ∀ {G : Hp} {σ : L2.St} {tk : TE} (k : Nat), Ex G3 G → σ[1]? = some (some (.ref lw)) → (∀ {G' : Hp}, Ex G G' → Ev tk σ G' (.int (k : Nat))) → EvP (tSl (rSlL K) (tVar 1) (tPart tk) tNoPart) σ G fun v G' => ∃ l, v = .ref l ∧ G' l = some (.lst ((ws.drop k).map V.str)) := fun k e4 g1 g2 H1 e Q kq => ⟨_, g1, g2 e H1 (Ex.refl _) _ fun H2 e2 => ⟨_, rfl, lw, _, rfl, SqL.of ((e4.trans (e.trans e2)) _ _ hl3), fun q nq => kq _ _ (e2.trans (Ex.new nq)) ⟨q, rfl, by rw [upd_same, cut_lo, List.map_drop]⟩⟩⟩
    have lt1 : ∀ {x : Str}, WB (L + 1) x → ∀ z ∈ [x], WB (L + 1) z := fun h z hz => by
      rw [List.mem_singleton.mp hz]
      exact h
    have app2 : ∀ {us vs : List Str}, (∀ x ∈ us, WB (L + 1) x) → (∀ x ∈ vs, WB (L + 1) x) → ∀ x ∈ us ++ vs, WB (L + 1) x := fun h h' x hx => by
      rcases List.mem_append.mp hx with hx | hx
      · exact h x hx
      · exact h' x hx
    have aT : ∀ k, ∀ x ∈ ws.take k, WB (L + 1) x := fun k x hx => (mT hx).up (by omega)
    have aD : ∀ k, ∀ x ∈ ws.drop k, WB (L + 1) x := fun k x hx => (mD hx).up (by omega)
    have aW : ∀ x ∈ ws, WB (L + 1) x := fun x hx => (bw.2 x hx).up (by omega)
    have wo1 : WB (L + 1) o := wo.up (by omega)
    have at1 : WB (L + 1) (ws[a] ++ "\n") := wat.app nl_wb
    have at2 : WB (L + 1) ("\n" ++ ws[a]) := by
      have := nl_wb.app wat
      rw [Nat.add_comm] at this
      exact this
    have evAt : ∀ {G : Hp} {σ : L2.St}, Ex G3 G → σ[1]? = some (some (.ref lw)) → σ[2]? = some (some (.int (a : Nat))) → Ev (tOp (rIxL K) (tVar 1) (tVar 2)) σ G (.str ws[a]) := fun e4 g1 g2 H1 e Q kq => ⟨_, g1, _, g2, lw, _, _, _, rfl, rfl, SqL.of ((e4.trans e) _ _ hl3), atI_nat (by rw [List.getElem?_map, List.getElem?_eq_getElem al]; rfl), kq _ (Ex.refl _)⟩
    have nl1 : ("\n" : Str).length = 1 := by decide +kernel
    have sz1 : (ws[a]).length + ("\n" : Str).length ≤ sizeLine := size _ (by have := wat.1; omega)
    have sz2 : ("\n" : Str).length + (ws[a]).length ≤ sizeLine := size _ (by have := wat.1; omega)
    -- 0, 1
    refine s_if (b := decide ((y : Int) < 2)) (et_is (et_test (ev_op (ev_var rfl) ev_c rv_I0)) rfl) (fun z G e => ?_) fun z G e => ?_
    · refine (ep_cat (ep_cat (slT e rfl rfl) (fun G' e' => ep_one (ev_var rfl)) (by simp only [List.length_take, List.length_cons, List.length_nil]; omega)) (fun G' e' => slD (a + y) (e.trans e') rfl (fun _ => ev_is (ev_op (ev_var rfl) (ev_var rfl) rv_I0) rfl)) (by simp only [List.length_append, List.length_take, List.length_drop, List.length_cons, List.length_nil]; omega)) G (Ex.refl _) _ fun v G4 e4 hv => ?_
      obtain ⟨l, rfl, hl4⟩ := hv
      exact done (e.trans e4) hl4 (by simp only [List.length_append, List.length_take, List.length_drop, List.length_cons, List.length_nil]; omega) (app2 (app2 (aT _) (lt1 wo1)) (aD _))
    refine n_next ?_
    dsimp only
    refine n_seq ?_
    -- 2
    refine s_if (tst 2 rfl) (fun z G' e' => ?_) fun z G' e' => ?_
    · replace e := e.trans e'
      refine (ep_cat (slT e rfl rfl) (fun G' e' => slD (a + 1) (e.trans e') rfl (fun _ => ev_is (ev_op (ev_var rfl) ev_c rv_I0) rfl)) (by simp only [List.length_take, List.length_drop]; omega)) G' (Ex.refl _) _ fun v G4 e4 hv => ?_
      obtain ⟨l, rfl, hl4⟩ := hv
      exact done (e.trans e4) hl4 (by simp only [List.length_append, List.length_take, List.length_drop]; omega) (app2 (aT _) (aD _))
    replace e := e.trans e'
    clear e'
    refine n_next ?_
    dsimp only
    refine n_seq ?_
    -- 3
    refine s_if (tst 3 rfl) (fun z G'' e' => ?_) fun z G'' e' => ?_
    · replace e := e.trans e'
      refine (slT e rfl rfl) G'' (Ex.refl _) _ fun v G4 e4 hv => ?_
      obtain ⟨l, rfl, hl4⟩ := hv
      exact done (e.trans e4) hl4 (by simp only [List.length_take]; omega) (aT _)
    replace e := e.trans e'
    clear e'
    refine n_next ?_
    dsimp only
    refine n_seq ?_
    -- 4
    refine s_if (tst 4 rfl) (fun z H5 e' => ?_) fun z H5 e' => ?_
    · replace e := e.trans e'
      refine (ep_cat (us := ws) (fun H1 e2 Q kq => ⟨_, rfl, kq _ _ (Ex.refl _) ⟨lw, rfl, (e.trans e2) _ _ hl3⟩⟩) (fun G' e' => ep_one (ev_var rfl)) (by simp only [List.length_cons, List.length_nil]; omega)) H5 (Ex.refl _) _ fun v G4 e4 hv => ?_
      obtain ⟨l, rfl, hl4⟩ := hv
      exact done (e.trans e4) hl4 (by simp only [List.length_append, List.length_cons, List.length_nil]; omega) (app2 aW (lt1 wo1))
    replace e := e.trans e'
    clear e'
    refine n_next ?_
    dsimp only
    refine n_seq ?_
    -- 6
    refine s_if (tst 6 rfl) (fun z H6 e' => ?_) fun z H6 e' => ?_
    · replace e := e.trans e'
      refine (ep_cat (ep_cat (slT e rfl rfl) (fun G' e' => ep_one (x := ws[a] ++ "\n") (ev_op (evAt (e.trans e') rfl rfl) ev_c (rv_addS sz1))) (by simp only [List.length_take, List.length_cons, List.length_nil]; omega)) (fun G' e' => slD (a + 1) (e.trans e') rfl (fun _ => ev_is (ev_op (ev_var rfl) ev_c rv_I0) rfl)) (by simp only [List.length_append, List.length_take, List.length_drop, List.length_cons, List.length_nil]; omega)) H6 (Ex.refl _) _ fun v G4 e4 hv => ?_
      obtain ⟨l, rfl, hl4⟩ := hv
      exact done (e.trans e4) hl4 (by simp only [List.length_append, List.length_take, List.length_drop, List.length_cons, List.length_nil]; omega) (app2 (app2 (aT _) (lt1 at1)) (aD _))
    replace e := e.trans e'
    clear e'
    refine n_next ?_
    dsimp only
    refine n_seq ?_
    -- 7
    refine s_if (tst 7 rfl) (fun z H7 e' => ?_) fun z H7 e' => ?_
    · replace e := e.trans e'
      refine (ep_cat (ep_cat (slT e rfl rfl) (fun G' e' => ep_one (x := "\n" ++ ws[a]) (ev_op ev_c (evAt (e.trans e') rfl rfl) (rv_addS sz2))) (by simp only [List.length_take, List.length_cons, List.length_nil]; omega)) (fun G' e' => slD (a + 1) (e.trans e') rfl (fun _ => ev_is (ev_op (ev_var rfl) ev_c rv_I0) rfl)) (by simp only [List.length_append, List.length_take, List.length_drop, List.length_cons, List.length_nil]; omega)) H7 (Ex.refl _) _ fun v G4 e4 hv => ?_
      obtain ⟨l, rfl, hl4⟩ := hv
      exact done (e.trans e4) hl4 (by simp only [List.length_append, List.length_take, List.length_drop, List.length_cons, List.length_nil]; omega) (app2 (app2 (aT _) (lt1 at2)) (aD _))
    replace e := e.trans e'
    clear e'
    refine n_next ?_
    dsimp only
    refine n_seq ?_
    -- 5
    refine s_if (tst 5 rfl) (fun z H8 e' => ?_) fun z H8 e' => ?_
    · replace e := e.trans e'
      obtain ⟨k, j, hc, hj, hk⟩ := cut_md (ws.map V.str) a (a + 2)
      rw [List.length_map, Nat.min_eq_left (by omega)] at hk
      subst hk
      refine (ep_cat (ep_cat (vs := ((ws.drop k).take j).reverse) (slT e rfl rfl) (fun G' e' H1 e2 Q kq => ⟨_, rfl, _, rfl, _, rfl, _, rfl, _, _, rfl, rfl, _, rfl, lw, _, rfl, SqL.of ((e.trans (e'.trans e2)) _ _ hl3), fun q nq => ⟨q, _, rfl, SqL.of upd_same, fun q2 nq2 => kq _ _ ((Ex.new nq).trans (Ex.new nq2)) ⟨q2, rfl, by
        rw [upd_same, List.map_reverse, List.map_take, List.map_drop, ← hc]
        rfl⟩⟩⟩) (by simp only [List.length_take, List.length_drop, List.length_reverse]; omega)) (fun G' e' => slD (k + 2) (e.trans e') rfl (fun _ => ev_is (ev_op (ev_var rfl) ev_c rv_I0) rfl)) (by simp only [List.length_append, List.length_take, List.length_drop, List.length_reverse]; omega)) H8 (Ex.refl _) _ fun v G4 e4 hv => ?_
      obtain ⟨l, rfl, hl4⟩ := hv
      exact done (e.trans e4) hl4 (by simp only [List.length_append, List.length_take, List.length_drop, List.length_reverse]; omega) (app2 (app2 (aT _) fun x hx => aD _ x (List.mem_of_mem_take (List.mem_reverse.mp hx))) (aD _))
    replace e := e.trans e'
    refine n_next ?_
    exact ⟨_, rfl, done e (e _ _ hl3) (by omega) aW⟩
end
/-! ### how many words; words joined and split -/
theorem twA5 {k : Nat} (f : ∀ {S N n : Nat} {d : PyData}, Tm k d S N n → (tw k d).length + 1 ≤ 5 * N) : ∀ {ts : List PyData} {S N : Nat} {ns : List Nat}, TmA k ts S N ns → (ts.flatMap (tw k)).length + ts.length ≤ 5 * N
  | [], _, _, _, .nil => Nat.le_refl _
  | t :: ts, _, _, _, .cons (N := N1) (N' := N2) h hs => by
    have h1 := f h
    have h2 := twA5 f hs
    rw [List.flatMap_cons, List.length_append, List.length_cons]
    omega
theorem twO5 {k : Nat} (f : ∀ {S N n : Nat} {d : PyData}, Tm k d S N n → (tw k d).length + 1 ≤ 5 * N) : ∀ {os : List PyData} {S N : Nat} {ns : List Nat}, TmA k (os.map sndD) S N ns → (os.flatMap (fun o => fT (frQ (fstD o)) :: tw k (sndD o))).length ≤ 5 * N
  | [], _, _, _, .nil => Nat.le_refl _
  | o :: os, _, _, _, .cons (N := N1) (N' := N2) h hs => by
    have h1 := f h
    have h2 := twO5 f hs
    rw [List.flatMap_cons, List.length_append, List.length_cons]
    omega
theorem tw5 : ∀ {k S N n : Nat} {d : PyData}, Tm k d S N n → (tw k d).length + 1 ≤ 5 * N
  | 0, _, _, _, _, h => by cases h
  | k + 1, _, _, _, d, h => by
    cases h with
    | e =>
      rw [tw_e]
      show 1 + 1 ≤ 5 * 1
      decide
    | @al _ S N ts ns ta l2 l3 =>
      have := twA5 (fun h => tw5 h) ta
      rw [tw_al]
      unfold lw
      simp only [List.length_append, List.length_cons, List.length_nil]
      omega
    | @st _ S N w os ns fq ol ob ta =>
      have := twO5 (fun h => tw5 h) ta
      rw [tw_st, List.length_append, List.length_append, List.length_singleton]
      have e : ([wStep, fT (frQ w), wO] : List Str).length = 3 := rfl
      omega
theorem WordOk.wb {x : Str} (h : WordOk x) : WB 122 x := h
/-- what split gives of joined words -/
def spW (ws : List Str) : List Str := if ws = [] then [""] else ws
theorem wb_split {L : Nat} {ws : List Str} (h : ∀ x ∈ ws, WB L x) : Txt.split (jn ws) " " = spW ws := by
  unfold spW
  by_cases c : ws = []
  · rw [if_pos c, c]
    have e : jn [] = "" := by decide +kernel
    rw [e]
    decide +kernel
  · rw [if_neg c]
    have e : TL.tl (Str.ofString " ") = [32] := by decide +kernel
    have := TL.split_join (y := (" " : Str)) (s := 32) (S := []) e (by decide +kernel) c (fun p hp => (h p hp).2.1)
    rw [TL.join_eq] at this
    exact this
theorem wb_ok {L : Nat} : ∀ {ws : List Str}, (∀ x ∈ ws, WB L x) → PyData.strOk (jn ws) = true
  | [], _ => so_all.mpr fun c hc => by simp [jn, Str.join, Str.empty] at hc
  | [t], hs => (hs t List.mem_cons_self).2.2
  | t :: u :: ts, hs => by
    show PyData.strOk (t ++ " " ++ jn (u :: ts)) = true
    exact so_app (so_app (hs t List.mem_cons_self).2.2 (so_str _)) (wb_ok (ws := u :: ts) fun v hv => hs v (List.mem_cons_of_mem _ hv))
theorem wb_sum {L : Nat} : ∀ {ws : List Str}, (∀ x ∈ ws, WB L x) → (ws.map (·.length)).sum ≤ L * ws.length
  | [], _ => Nat.le_refl _
  | x :: ws, h => by
    have h1 := (h x List.mem_cons_self).1
    have h2 := wb_sum (ws := ws) fun y hy => h y (List.mem_cons_of_mem _ hy)
    rw [List.map_cons, List.sum_cons, List.length_cons, Nat.mul_succ]
    omega
theorem bw_sum {ws : List Str} (h : BW 900 200 ws) : (ws.map (·.length)).sum + ws.length ≤ 180900 := by
  have h1 := wb_sum h.2
  have h2 := h.1
  omega
theorem bw_len {ws : List Str} (h : BW 900 200 ws) : (jn ws).length ≤ 200000 := by
  have h1 := StrLaws.join_length_le (" " : Str) ws
  have h2 := bw_sum h
  have e : (Str.ofString " ").length = 1 := by decide +kernel
  rw [e] at h1
  unfold jn
  omega
theorem bw_jsz {ws : List Str} (h : BW 900 200 ws) : (ws.map (·.length)).sum + ws.length * (Str.ofString " ").length ≤ 16777216 := by
  have h2 := bw_sum h
  have e : (Str.ofString " ").length = 1 := by decide +kernel
  rw [e]
  omega
theorem bw_wsl {ws : List Str} (h : BW 900 200 ws) : WsL (spW ws) := by
  unfold spW
  by_cases c : ws = []
  · rw [if_pos c]
    exact ⟨⟨by decide, fun x hx => by
      rw [List.mem_singleton.mp hx]
      decide +kernel⟩, fun x hx => by
      rw [List.mem_singleton.mp hx]
      exact so_str _⟩
  · rw [if_neg c]
    exact ⟨⟨by have := h.1; omega, fun x hx => by have := (h.2 x hx).1; omega⟩, fun x hx => (h.2 x hx).2.2⟩
theorem jn_eq (ws : List Str) : Txt.join (Str.ofString " ") ws = jn ws := TL.join_eq ..
/-! ### one of several terms, mixes -/
/-- a term with so many words at most -/
def TwL (L : Nat) (d : PyData) : Prop := flatN 128 d = true ∧ (∃ S N n, Tm 30 d S N n ∧ N ≤ 96) ∧ (tw 30 d).length ≤ L
theorem TwL.of {L S N n k : Nat} {d : PyData} (f : flatD d = true) (t : Tm k d S N n) (h : 5 * N ≤ L) (kl : k ≤ 30) (n9 : N ≤ 96) : TwL L d := by
  have t' := t.le kl
  have := tw5 t'
  exact ⟨flat_up (by decide) f, ⟨S, N, n, t', n9⟩, by omega⟩
theorem TwL.bw {L : Nat} {d : PyData} (h : TwL L d) : BW L 122 (tw 30 d) := by
  obtain ⟨fl, ⟨S, N, n, t, n9⟩, l⟩ := h
  exact ⟨l, fun x hx => (tw_ok t fl x hx).wb⟩
theorem TwL.mx {L n : Nat} {d : PyData} (h : TwL L d) (hn : n * L ≤ 800) : MxW (List.replicate n d) := by
  refine ⟨?_, fun x hx => ?_, ?_⟩
  · clear hn
    induction n with
    | zero => rfl
    | succ n ih =>
      show (flatN 128 d && flatNA 128 (List.replicate n d)) = true
      rw [h.1, ih]
      rfl
  · rw [List.eq_of_mem_replicate hx]
    exact h.2.1
  · have e : ((List.replicate n d).flatMap (tw 30)).length = n * (tw 30 d).length := by
      clear hn
      induction n with
      | zero => simp
      | succ n ih => rw [List.replicate_succ, List.flatMap_cons, List.length_append, ih, Nat.succ_mul, Nat.add_comm]
    rw [e]
    exact Nat.le_trans (Nat.mul_le_mul_left _ h.2.2) hn
theorem MxW.bw {ds : List PyData} (h : MxW ds) : BW 803 122 (wMix :: lw 30 ds) := by
  obtain ⟨fl, ht, hl⟩ := h
  refine ⟨?_, fun x hx => ?_⟩
  · unfold lw
    simp only [List.length_append, List.length_cons, List.length_nil]
    omega
  · rcases List.mem_cons.mp hx with rfl | hx
    · exact wk_mix.wb
    rcases List.mem_append.mp hx with hx | hx
    · rcases List.mem_cons.mp hx with rfl | hx
      · exact wk_o.wb
      · obtain ⟨t, hm, hx⟩ := List.mem_flatMap.mp hx
        obtain ⟨_, _, _, tm, _⟩ := ht t hm
        exact (tw_ok tm (flatM_mem fl hm) x hx).wb
    · rw [List.mem_singleton.mp hx]
      exact wk_c.wb
theorem Gm.mxw {ds : List PyData} (g : Gm ds) : MxW ds := by
  obtain ⟨fl, l1, l4, gg, S, N, ns, ta, s16, n96⟩ := g
  refine ⟨flatA_up (by decide) fl, fun d hd => ?_, ?_⟩
  · obtain ⟨_, S, N, n, t, _, n48⟩ := gg d hd
    exact ⟨S, N, n, t, by omega⟩
  · have := twA5 (fun h => tw5 h) ta
    omega
section
variable {K : PySem.W.Frag} {mg : Str → Option Value} {T : Txt K mg} {p : Addr} {H : Hp} {Q : VK} {σ : L2.St}
/-- data drawn while pens draw on -/
def EvK (T : Txt K mg) (p : Addr) (te : TE) (σ : L2.St) (H : Hp) (P : PyData → Prop) : Prop := ∀ H1, Kp T p H H1 → ∀ Q : VK, (∀ v d H', P d → Kp T p H1 H' → Dq K p H' v d → Q v H') → te σ H1 Q
def EvKs (T : Txt K mg) (p : Addr) (ta : TA) (σ : L2.St) (H : Hp) (n : Nat) (P : PyData → Prop) : Prop := ∀ H1, Kp T p H H1 → ∀ Q, (∀ vs ds H', (∀ d ∈ ds, P d) → ds.length = n → Kp T p H1 H' → DqAll K p H' vs ds → Q vs H') → ta σ H1 Q
/-- an int drawn -/
def EvKI (T : Txt K mg) (p : Addr) (te : TE) (σ : L2.St) (H : Hp) (P : Nat → Prop) : Prop := ∀ H1, Kp T p H H1 → ∀ Q : VK, (∀ (i : Nat) H', P i → Kp T p H1 H' → Q (.int (i : Nat)) H') → te σ H1 Q
theorem Kp.re (k : Kp T p H H) : Kp T p H H := Kp.refl k.t k.s
theorem eks_nil {P : PyData → Prop} : EvKs T p tNil σ H 0 P := fun H1 k Q h => h [] [] H1 (fun _ hd => by cases hd) rfl (Kp.refl k.t k.s) .nil
theorem eks_cons {te : TE} {ta : TA} {n : Nat} {P : PyData → Prop} (h : EvK T p te σ H P) (hs : EvKs T p ta σ H n P) : EvKs T p (tCons te ta) σ H (n + 1) P := fun H1 k Q kq =>
  h H1 k _ fun v d H2 pd k2 qd => hs H2 (k.trans k2) _ fun vs ds H3 ps pl k3 qs => kq (v :: vs) (d :: ds) H3 (fun x hx => by
    rcases List.mem_cons.mp hx with rfl | hx
    · exact pd
    · exact ps x hx) (by rw [List.length_cons, pl]) (k2.trans k3) (.cons (k3.dq k2.t qd) qs)
theorem EvK.mono {te : TE} {P P' : PyData → Prop} (h : EvK T p te σ H P) (m : ∀ d, P d → P' d) : EvK T p te σ H P' := fun H1 k Q kq => h H1 k Q fun v d H' pd => kq v d H' (m d pd)
theorem EvKI.mono {te : TE} {P P' : Nat → Prop} (h : EvKI T p te σ H P) (m : ∀ d, P d → P' d) : EvKI T p te σ H P' := fun H1 k Q kq => h H1 k Q fun d H' pd => kq d H' (m d pd)
/-- data that stand and do not draw -/
theorem EvD.ek {te : TE} {d : PyData} {P : PyData → Prop} (h : ∀ H1, Kp T p H H1 → EvD K p te σ H1 d) (pd : P d) : EvK T p te σ H P := fun H1 k Q kq => h H1 k H1 (Ex.refl _) _ fun v H2 e2 q => kq v d H2 pd ((Kp.refl k.t k.s).ex e2) q
theorem ek_pick {ta : TA} {n : Nat} {P : PyData → Prop} (h2 : σ[2]? = some (some (.ref p))) (hs : EvKs T p ta σ H n P) (n0 : 0 < n) (n1 : n ≤ 1000) : EvK T p (tCall (spOneOf K) [] E0 (tCons (tVar 2) (tCons (tLstN ta) tNil))) σ H P := fun H1 k Q kq => by
  refine ⟨_, h2, ?_⟩
  refine hs H1 k _ fun vs ds H2 ps pl k2 qs => ?_
  have vl := qs.len
  refine ⟨Nat.le_of_lt (small1000 (by omega)), fun l fl nm => ?_⟩
  have x5 := Ex.new (o := .lst vs) fl
  have kA := k2.ex x5
  refine ⟨p, l, vs, rfl, kA.t, upd_same, kA.t.ne upd_same, by omega, by omega, fun i x H' hx eb ht' => ?_⟩
  have il : i < ds.length := by
    have := (List.getElem?_eq_some_iff.mp hx).1
    omega
  have kB := (Kp.refl kA.t kA.s).b eb ht'
  obtain ⟨x', hx', qd⟩ := (kB.dqs kA.t (DqAll.ex x5 _ _ qs)).get (List.getElem?_eq_getElem il)
  rw [hx] at hx'
  cases hx'
  exact kq x _ H' (ps _ (List.getElem_mem il)) (kA.trans kB) qd
/-- one of two ints -/
theorem eki_two {a b : Nat} (h2 : σ[2]? = some (some (.ref p))) : EvKI T p (tCall (spOneOf K) [] E0 (tCons (tVar 2) (tCons (tLstN (tCons (tC (.int (a : Nat))) (tCons (tC (.int (b : Nat))) tNil))) tNil))) σ H (fun i => i = a ∨ i = b) := fun H1 k Q kq => by
  refine ⟨_, h2, by show 2 ≤ sizeLine; decide, fun l fl nm => ?_⟩
  have x1 := Ex.new (o := .lst [V.int (a : Nat), V.int (b : Nat)]) fl
  have ht1 := k.t.ex x1
  refine ⟨p, l, _, rfl, ht1, upd_same, ht1.ne upd_same, by show 0 < 2; decide, by show 2 ≤ 1000; decide, fun j x H' hx eb ht' => ?_⟩
  have kA := ((Kp.refl k.t k.s).ex x1).b eb ht'
  match j, hx with
  | 0, h => cases h; exact kq a H' (.inl rfl) kA
  | 1, h => cases h; exact kq b H' (.inr rfl) kA
theorem ek_drn {m r : Nat} (h2 : σ[2]? = some (some (.ref p))) (m3 : m ≤ 3) (r8 : r ≤ 8) : EvK T p (tCall (spDrn K) [] E0 (tCons (tVar 2) (tCons (tC (.int (m : Nat))) (tCons (tC (.int (r : Nat))) tNil)))) σ H (TwL 270) := fun H1 k Q kq =>
  ⟨_, h2, p, m, r, rfl, k.t, by omega, m3, fun v d S N n H2 eb ht q fd tm s1 n48 _ => kq v d H2 (TwL.of fd tm (by omega) (by omega) (by omega)) ((Kp.refl k.t k.s).b eb ht) q⟩
theorem ek_long {tn : TE} {M L : Nat} (hn : EvKI T p tn σ H (fun i => i ≤ M)) (hM : M ≤ 20) (hL : 5 * (M + 1) ≤ L) : EvK T p (tCall (spLong K) [] E0 (tCons tn tNil)) σ H (TwL L) := fun H1 k Q kq =>
  hn H1 k _ fun i H2 hi k2 => ⟨p, i, rfl, by omega, fun v H3 e3 q => by
    obtain ⟨n, t⟩ := tm_long i
    exact kq v _ H3 (TwL.of (flat_long (by omega)) t (by omega) (by omega) (by omega)) (k2.ex e3) q⟩
theorem ek_wide {tn : TE} {M L : Nat} (hn : EvKI T p tn σ H (fun i => i ≤ M)) (hM : M ≤ 50) (hL : 5 * (1 + 2 * (M / 2)) ≤ L) : EvK T p (tCall (spWide K) [] E0 (tCons tn tNil)) σ H (TwL L) := fun H1 k Q kq =>
  hn H1 k _ fun i H2 hi k2 => ⟨p, i, rfl, by omega, fun v H3 e3 q => by
    obtain ⟨n, t⟩ := tm_wide (i / 2)
    exact kq v _ H3 (TwL.of flat_wide t (by omega) (by omega) (by omega)) (k2.ex e3) q⟩
theorem eki_c {i : Nat} {P : Nat → Prop} (h : P i) : EvKI T p (tC (.int (i : Nat))) σ H P := fun H1 k Q kq => kq i H1 h (Kp.refl k.t k.s)
/-- a mix that may be written -/
def MxD (d : PyData) : Prop := ∃ ds, d = .tuple ds ∧ MxW ds
theorem ek_dmx (h2 : σ[2]? = some (some (.ref p))) : EvK T p (tCall (spDMx K) [] E0 (tCons (tVar 2) (tCons (tC (.int 4)) (tCons (tC (.int 3)) tNil)))) σ H MxD := fun H1 k Q kq =>
  ⟨_, h2, p, 4, 3, rfl, ⟨rfl, rfl⟩, k.t, fun v ds H2 eb ht q g => kq v _ H2 ⟨ds, rfl, g.mxw⟩ ((Kp.refl k.t k.s).b eb ht) q⟩
theorem reps_q {v : V} {d : PyData} {G : Hp} (h : Dq K p G v d) : ∀ n : Nat, DqAll K p G (List.replicate n [v]).flatten (List.replicate n d)
  | 0 => .nil
  | n + 1 => .cons h (reps_q h n)
theorem ek_rep {te tn : TE} {L M : Nat} {P : PyData → Prop} (h : EvK T p te σ H P) (hP : ∀ d, P d → TwL L d) (hn : EvKI T p tn σ H (fun i => 2 ≤ i ∧ i ≤ M)) (hM : M * L ≤ 800) (M9 : M ≤ 1000) : EvK T p (tOp (rRepT K) (tTup (tCons te tNil)) tn) σ H MxD := fun H1 k Q kq =>
  h H1 k _ fun v d H2 pd k2 qd => ⟨by show 1 ≤ sizeLine; decide, fun t ft => by
    have x1 := Ex.new (o := .tup [v]) ft
    have k3 := (k.trans k2).ex x1
    refine hn _ k3 _ fun i H4 hi k4 => ?_
    have ht4 : SqT K H4 t [v] := k4.st k3.t (SqT.of upd_same)
    refine ⟨t, (i : Nat), [v], rfl, rfl, ht4, List.cons_ne_nil _ _, by omega, by omega, by show 1 ≤ 1000; decide, fun q nq => ?_⟩
    have x5 := Ex.new (o := .tup (List.replicate ((i : Nat) : Int).toNat [v]).flatten) nq
    refine kq (.ref q) (.tuple (List.replicate i d)) _ ⟨_, rfl, (hP d pd).mx (Nat.le_trans (Nat.mul_le_mul_right _ hi.2) hM)⟩ (((k2.ex x1).trans k4).ex x5) (.tup (SqT.of upd_same) ?_)
    exact reps_q (Dq.ex x5 _ _ (k4.dq k3.t (Dq.ex x1 _ _ qd))) i⟩
theorem ek_tup1 {te : TE} {L : Nat} {P : PyData → Prop} (h : EvK T p te σ H P) (hP : ∀ d, P d → TwL L d) (hL : L ≤ 800) : EvK T p (tTup (tCons te tNil)) σ H MxD := fun H1 k Q kq =>
  h H1 k _ fun v d H2 pd k2 qd => ⟨by show 1 ≤ sizeLine; decide, fun t ft => by
    have x1 := Ex.new (o := .tup [v]) ft
    exact kq (.ref t) (.tuple [d]) _ ⟨_, rfl, (hP d pd).mx (n := 1) (by omega)⟩ (k2.ex x1) (.tup (SqT.of upd_same) (.cons (Dq.ex x1 _ _ qd) .nil))⟩
theorem ek_var {i : Nat} {v : V} {d : PyData} {P : PyData → Prop} (h : σ[i]? = some (some v)) (ht : Tape H p) (q : Dq K p H v d) (pd : P d) : EvK T p (tVar i) σ H P := fun H1 k Q kq => ⟨_, h, kq v d H1 pd (Kp.refl k.t k.s) (k.dq ht q)⟩
theorem ek_end : EvK T p (tTup (tCons (tC (.str "end")) tNil)) σ H (TwL 5) := fun H1 k Q kq => ⟨by show 1 ≤ sizeLine; decide, fun t ft => by
    have x1 := Ex.new (o := .tup [V.str "end"]) ft
    exact kq (.ref t) (.tuple [.str "end"]) _ (TwL.of (by decide) (Tm.e (k := 0)) (by decide) (by decide) (by decide)) ((Kp.refl k.t k.s).ex x1) (.tup (SqT.of upd_same) (.cons (.str _) .nil))⟩
/-- no text -/
def NoT (d : PyData) : Prop := isStrD d = false
theorem TwL.noT {L : Nat} {d : PyData} (h : TwL L d) : NoT d := by
  obtain ⟨_, ⟨S, N, n, t, _⟩, _⟩ := h
  cases t <;> rfl
theorem ek_things {v : V} {d : PyData} (h4 : σ[4]? = some (some v)) (ht : Tape H p) (q : Dq K p H v d) (pd : NoT d) : EvKs T p (tCons (tC .non) (tCons (tC (.int 1)) (tCons (tLstN (tCons (tC (.str "end")) tNil)) (tCons (tTup (tCons (tC (.str "end")) tNil)) (tCons tDNewK (tCons (tC (.bl true)) (tCons (tVar 4) tNil))))))) σ H 7 NoT :=
  eks_cons (EvD.ek (d := .none) (fun H1 _ => ed_none) rfl) (eks_cons (EvD.ek (d := .int 1) (fun H1 _ => ed_I) rfl) (eks_cons (EvD.ek (d := .list [.str "end"]) (fun H1 k H2 e Q kq => by
    refine ⟨by show 1 ≤ sizeLine; decide, fun l fl nm => ?_⟩
    have x1 := Ex.new (o := .lst [V.str "end"]) fl
    have ht1 := (k.t.ex e).ex x1
    exact kq (.ref l) _ x1 (.lst (ht1.ne upd_same) nm upd_same (.cons (.str _) .nil))) rfl) (eks_cons (EvD.ek (d := .tuple [.str "end"]) (fun H1 _ => ed_tup (eds_cons ed_str eds_nil) (by decide)) rfl) (eks_cons (EvD.ek (d := .dict []) (fun H1 _ H2 e Q kq a fa => kq _ _ (Ex.new fa) (.emp upd_same)) rfl) (eks_cons (EvD.ek (d := .bool true) (fun H1 _ H2 e Q kq => kq _ _ (Ex.refl _) (.bl true)) rfl) (eks_cons (ek_var h4 ht q pd) eks_nil))))))
/-! ### what is told -/
/-- the lambda's call ends well -/
def RetL (Q : VK) (f l : Addr) : VK := fun _ G => tRet (tVar 1) { nx := fun _ H' => Q .non H', rt := Q } [some (.ref f), some (.ref l), none] G
theorem lam_told {t : XK → TE} (ht : TBs (tts T) H) (k : ∀ (f l : Addr) (G : Hp), ExT H G → TBs (tts T) G → l ≠ sysModules → G l = some (.lst []) → t (Wy T Q f l) σ G (RetL Q f l)) : tLamB T.P_law "law.<locals>.<lambda>" (TWhy K T.E_BadText.C) t σ H Q :=
  ⟨ht.s (T.P_law, "law.<locals>.<lambda>") (by simp), fun _ eB tab1 f l fl nm => k f l _ ((lam_xt (ht.s (T.P_law, "law.<locals>.<lambda>") (by simp)) eB).trans (Ex.t (Ex.new fl))) ((TBs.lam ht eB tab1).ex (Ex.new fl)) nm upd_same⟩
theorem told_sp {f : List Str → Option Nat} {x : Str} {ws : List Str} {f0 l : Addr} {G : Hp} (hw : Txt.split x " " = ws) (hx : x.length ≤ 1000000) (ok : WsOk ws) (ts : TBs (tts T) G) (nm : l ≠ sysModules) (hl : G l = some (.lst []))
    (kk : ∀ l' G', ExT G G' → TBs (tts T) G' → l' ≠ sysModules → G' l' = some (.lst (badV (f ws))) → Q (.ref l') G') : spPaG K (tts T) T.E_BadText.C f [.str x] G (RetL Q f0 l) (Wy T Q f0 l) := by
  refine ⟨l, .str x, .str x, rfl, .str x, ts, fun y e => ?_, fun z => by cases z⟩
  cases e
  rw [hw]
  refine ⟨hx, ok, fun i hi H' xe t' => wy_text fun l2 G2 e2 nm2 h2 => kk l2 G2 (xe.trans (Ex.t e2)) (t'.ex e2) nm2 (by rw [hi]; exact h2), fun hn z H' xe t' => ⟨_, rfl, kk l H' xe t' nm ?_⟩⟩
  rw [hn]
  exact xe l _ (fun _ z => nomatch z) hl
theorem told_no {f : List Str → Option Nat} {v : V} {d : PyData} {f0 l q : Addr} {G : Hp} (hd : Dq K q G v d) (no : NoT d) (ts : TBs (tts T) G)
    (kk : ∀ l' G', ExT G G' → TBs (tts T) G' → l' ≠ sysModules → G' l' = some (.lst [V.int 0]) → Q (.ref l') G') : spPaG K (tts T) T.E_BadText.C f [v] G (RetL Q f0 l) (Wy T Q f0 l) := by
  refine ⟨q, v, d, rfl, hd, ts, fun y e => ?_, fun _ H' xe t' => wy_text fun l2 G2 e2 nm2 h2 => kk l2 G2 (xe.trans (Ex.t e2)) (t'.ex e2) nm2 h2⟩
  subst e
  cases no
end
/-- a list of numbers as data -/
def badD (r : Option Nat) : List PyData := match r with
  | some i => [.int (i : Nat)]
  | none => []
theorem bad_dp {K : PySem.W.Frag} {H : Hp} {l : Addr} {r : Option Nat} (h : H l = some (.lst (badV r))) : Dp K H (.ref l) (.list (badD r)) := .lst (SqL.of h) (by
  cases r with
  | none => exact .nil
  | some i => exact .cons (.int _) .nil)
theorem shp_bad (r : Option Nat) : SeqAt.shaped (.list [.list (badD r), .list (badD r)]) = true := by
  cases r <;> rfl
theorem eqv_bad (r : Option Nat) : (!PyData.eqv (.list [.list (badD r), .list (badD r)]) (.list [.list (badD r), .list (badD r)])) = false := by
  cases r <;> simp [PyData.eqv, PyData.eqvAll, badD]
theorem qual_law : (("law" : Str) ++ ".<locals>." ++ "<lambda>") = "law.<locals>.<lambda>" := by decide +kernel
theorem bad_ne {r : Option Nat} {l : Addr} {P : Prop} (h : some (HO.lst (badV r)) = some (HO.lst [V.ref l])) : P := by
  cases r with
  | none => cases h
  | some i => cases h
/-! ### the law itself -/
section
variable {P : Program} {w : World} {K : PySem.W.Frag} {mg : Str → Option Value} {base : Heap}
def spLaw (K : PySem.W.Frag) (PAs : List Addr) : Sp := fun vs H Q _ => ∃ (a : Addr) (ns : List Int), vs = [.ref a] ∧ SqL K H a (ns.map V.int) ∧ ns.length ≤ 63 ∧ (∀ z ∈ ns, Builtin.Int.intBits z ≤ 1048576) ∧ (∀ t ∈ PAs, H t = some (.tbl #[])) ∧ ∀ H', Q (.bl true) H'
theorem ok_law (T : Txt K mg) (tb_are_figures : GxR.TabB base mg T.c_are_figures T.P_are_figures) (tb_law : GxR.TabB base mg T.c_law T.P_law) : FnG P w K mg base 120 T.d_law.a T.d_law.fd ["_law_script"] (spLaw K [T.P_are_figures, T.P_law]) := by
  refine okCG T.d_law.F T.h_law sc_law (fun vs H Q E h => ?_) (fun A outer s H vs Q gd hr h => ?_)
  · obtain ⟨a, ns, rfl, _⟩ := h
    rfl
  · obtain ⟨a, ns, rfl, hS, hl, hbits, hT, k⟩ := h
    have hu := units100 hr
    have tbs : TBs (tts T) H := ⟨fun t ht => by
      rw [List.mem_singleton.mp ht]
      exact ⟨#[], hT _ (by simp), trivial⟩, fun z hz => by
      rw [List.mem_singleton.mp hz]
      exact LamX.TabS.nil (hT _ (by simp)), fun t ht z hz => by
      rw [List.mem_singleton.mp hz, List.mem_singleton.mp ht]
      exact T.ne_tabs⟩
    refine ⟨_, (pss_cons (ps_for PassesOwn.never rfl (pi_range1 (by rfl) T.n_range (pa_cons (pe_callB (call_max2 rfl) (by rfl) T.n_max (by decide +kernel) (pa_cons pe_int (pa_cons (pe_callB (call_min2 rfl) (by rfl) T.n_min (by decide +kernel) (pa_cons pe_int (pa_cons (pe_callB call_len_seq (by rfl) T.n_len (by decide +kernel) (pa_cons (pv 0) pa_nil)) pa_nil))) pa_nil))) pa_nil)) (pg_name (i := 1) sc_law.nd rfl (Or.inl rfl)) (pss_cons (ps_set (i := 2) sc_law.nd rfl (Or.inl rfl) (pe_call (ok__law_tape T) (hr.mono (by decide)) (by rfl) T.d__law_tape.g T.d__law_tape.F.kp T.d__law_tape.b .nil pass0 (pa_cons (pv 0) (pa_cons (pv 1) pa_nil))))
      (pss_one (ps_for PassesOwn.never rfl (pi_range1 (by rfl) T.n_range (pa_cons pe_int pa_nil)) (pg_name (i := 3) sc_law.nd rfl (Or.inl rfl)) (pss_cons (ps_set (i := 4) sc_law.nd rfl (Or.inl rfl) (pe_call (ok__law_one_of T) (hr.mono (by decide)) (by rfl) T.d__law_one_of.g T.d__law_one_of.F.kp T.d__law_one_of.b .nil pass0 (pa_cons (pv 2) (pa_cons (pe_lstN (pa_cons (pe_call (ok__law_drawn_term T) (hr.mono (by decide)) (by rfl) T.d__law_drawn_term.g T.d__law_drawn_term.F.kp T.d__law_drawn_term.b .nil pass0 (pa_cons (pv 2) (pa_cons pe_int (pa_cons pe_int pa_nil)))) (pa_cons (pe_call (ok__law_long T) (hr.mono (by decide)) (by rfl) T.d__law_long.g T.d__law_long.F.kp T.d__law_long.b .nil pass0 (pa_cons (pe_call (ok__law_one_of T) (hr.mono (by decide)) (by rfl) T.d__law_one_of.g T.d__law_one_of.F.kp T.d__law_one_of.b .nil pass0 (pa_cons (pv 2) (pa_cons (pe_lstN (pa_cons pe_int (pa_cons pe_int pa_nil))) pa_nil))) pa_nil)) (pa_cons (pe_call (ok__law_wide T) (hr.mono (by decide)) (by rfl) T.d__law_wide.g T.d__law_wide.F.kp T.d__law_wide.b .nil pass0 (pa_cons (pe_call (ok__law_one_of T) (hr.mono (by decide)) (by rfl) T.d__law_one_of.g T.d__law_one_of.F.kp T.d__law_one_of.b .nil pass0 (pa_cons (pv 2) (pa_cons (pe_lstN (pa_cons pe_int (pa_cons pe_int pa_nil))) pa_nil))) pa_nil)) (pa_cons (pe_call (ok__law_drawn_term T) (hr.mono (by decide)) (by rfl) T.d__law_drawn_term.g T.d__law_drawn_term.F.kp T.d__law_drawn_term.b .nil pass0 (pa_cons (pv 2) (pa_cons pe_int (pa_cons pe_int pa_nil)))) pa_nil))))) pa_nil))))
      (pss_cons (ps_set (i := 5) sc_law.nd rfl (Or.inl rfl) (pe_call (ok__law_bent T) (hr.mono (by decide)) (by rfl) T.d__law_bent.g T.d__law_bent.F.kp T.d__law_bent.b .nil pass0 (pa_cons (pv 2) (pa_cons (pe_op op_cat (pe_call (ok__law_bent T) (hr.mono (by decide)) (by rfl) T.d__law_bent.g T.d__law_bent.F.kp T.d__law_bent.b .nil pass0 (pa_cons (pv 2) (pa_cons (pe_call (ok__law_words T 30) (hr.mono (by first | decide | omega)) (by rfl) T.d__law_words.g T.d__law_words.F.kp T.d__law_words.b .nil pass0 (pa_cons (pv 4) pa_nil)) pa_nil))) (pe_op op_rep (pe_lstN (pa_cons pe_str pa_nil)) (pe_callTy call_int1 (by rfl) T.n_int (by decide +kernel) (pa_cons (pe_cmpR op_eq (pe_call (ok__law_pick T) (hr.mono (by decide)) (by rfl) T.d__law_pick.g T.d__law_pick.F.kp T.d__law_pick.b .nil pass0 (pa_cons (pv 2) (pa_cons pe_int pa_nil))) pe_int (nomark _)) pa_nil)))) pa_nil))))
      (pss_cons (ps_set (i := 6) sc_law.nd rfl (Or.inr rfl) (pe_join pe_str (pv 5)))
      (pss_cons (ps_set (i := 7) sc_law.nd rfl (Or.inl rfl) (pe_call (ok__law_bad_term T) (hr.mono (by decide)) (by rfl) T.d__law_bad_term.g T.d__law_bad_term.F.kp T.d__law_bad_term.b .nil pass0 (pa_cons (pe_split (pv 6) pe_str) pa_nil)))
      (pss_cons (ps_set (i := 8) sc_law.nd rfl (Or.inl rfl) (pe_lstN (pa_cons (pe_lamB (k := 116) T.d__law_told.F (by rfl) T.d__law_told.g T.d__law_told.b sc__law_told rfl (Or.inl rfl) (fun cdg => why_gives T.E_BadText.g) (LamX.TabB.mk tb_law.code tb_law.bm tb_law.gP) qual_law rfl (hr.mono (by decide)) (LamX.lamS_by (sc := defScope s_law) (by decide +kernel)) rfl (fun _ _ _ _ _ => rfl) (fun A outer s H E f d hr => (pe_call (ok_parse_term T tb_are_figures) (hr.mono (by decide)) (by rfl) T.d_parse_term.g T.d_parse_term.F.kp T.d_parse_term.b .nil (passes_call (takes_of rfl rfl rfl rfl) fun _ _ _ _ h => h) (pa_cons (pv 6) pa_nil)))) pa_nil)))
      (pss_cons (ps_expr (pe_bm PySem.F.plainAttrs_list PySem.F.slot_list_append PySem.F.type_list_append mt_append (pv 8) (pa_cons (pe_lamB (k := 116) T.d__law_told.F (by rfl) T.d__law_told.g T.d__law_told.b sc__law_told rfl (Or.inl rfl) (fun cdg => why_gives T.E_BadText.g) (LamX.TabB.mk tb_law.code tb_law.bm tb_law.gP) qual_law rfl (hr.mono (by decide)) (LamX.lamS_by (sc := defScope s_law) (by decide +kernel)) rfl (fun _ _ _ _ _ => rfl) (fun A outer s H E f d hr => (pe_callK0 (ok_parse_term T tb_are_figures) (hr.mono (by decide)) (by rfl) T.d_parse_term.g T.d_parse_term.F.kp (kb_parse_term T.d_parse_term.F) (passes_call (takes_of rfl rfl rfl rfl) fun _ _ _ _ h => h) (pk_cons (pv 6) pk_nil)))) pa_nil)))
      (pss_cons (ps_if (pt_cmpR (op_neD hr.units) (pv 8) (pe_lstN (pa_cons (pv 7) (pa_cons (pv 7) pa_nil))) (nomark _)) (pss_one (ps_ret pe_bl)) pss_nil)
      (pss_cons (ps_set (i := 9) sc_law.nd rfl (Or.inl rfl) (pe_call (ok__law_one_of T) (hr.mono (by decide)) (by rfl) T.d__law_one_of.g T.d__law_one_of.F.kp T.d__law_one_of.b .nil pass0 (pa_cons (pv 2) (pa_cons (pe_lstN (pa_cons (pe_call (ok__law_drawn_mix T) (hr.mono (by decide)) (by rfl) T.d__law_drawn_mix.g T.d__law_drawn_mix.F.kp T.d__law_drawn_mix.b .nil pass0 (pa_cons (pv 2) (pa_cons pe_int (pa_cons pe_int pa_nil)))) (pa_cons (pe_op op_repT (pe_tup (pa_cons (pe_call (ok__law_wide T) (hr.mono (by decide)) (by rfl) T.d__law_wide.g T.d__law_wide.F.kp T.d__law_wide.b .nil pass0 (pa_cons pe_int pa_nil)) pa_nil)) (pe_call (ok__law_one_of T) (hr.mono (by decide)) (by rfl) T.d__law_one_of.g T.d__law_one_of.F.kp T.d__law_one_of.b .nil pass0 (pa_cons (pv 2) (pa_cons (pe_lstN (pa_cons pe_int (pa_cons pe_int pa_nil))) pa_nil)))) (pa_cons (pe_op op_repT (pe_tup (pa_cons (pe_call (ok__law_long T) (hr.mono (by decide)) (by rfl) T.d__law_long.g T.d__law_long.F.kp T.d__law_long.b .nil pass0 (pa_cons pe_int pa_nil)) pa_nil)) (pe_call (ok__law_one_of T) (hr.mono (by decide)) (by rfl) T.d__law_one_of.g T.d__law_one_of.F.kp T.d__law_one_of.b .nil pass0 (pa_cons (pv 2) (pa_cons (pe_lstN (pa_cons pe_int (pa_cons pe_int pa_nil))) pa_nil)))) (pa_cons (pe_tup (pa_cons (pv 4) pa_nil)) (pa_cons (pe_op op_repT (pe_tup (pa_cons (pe_tup (pa_cons pe_str pa_nil)) pa_nil)) (pe_call (ok__law_one_of T) (hr.mono (by decide)) (by rfl) T.d__law_one_of.g T.d__law_one_of.F.kp T.d__law_one_of.b .nil pass0 (pa_cons (pv 2) (pa_cons (pe_lstN (pa_cons pe_int (pa_cons pe_int pa_nil))) pa_nil)))) pa_nil)))))) pa_nil))))
      (pss_cons (ps_set (i := 10) sc_law.nd rfl (Or.inr rfl) (pe_join pe_str (pe_call (ok__law_bent T) (hr.mono (by decide)) (by rfl) T.d__law_bent.g T.d__law_bent.F.kp T.d__law_bent.b .nil pass0 (pa_cons (pv 2) (pa_cons (pe_call (ok__law_mix_words T) (hr.mono (by decide)) (by rfl) T.d__law_mix_words.g T.d__law_mix_words.F.kp T.d__law_mix_words.b .nil pass0 (pa_cons (pv 9) pa_nil)) pa_nil)))))
      (pss_cons (ps_set (i := 7) sc_law.nd rfl (Or.inl rfl) (pe_call (ok__law_bad_mix T) (hr.mono (by decide)) (by rfl) T.d__law_bad_mix.g T.d__law_bad_mix.F.kp T.d__law_bad_mix.b .nil pass0 (pa_cons (pe_split (pv 10) pe_str) pa_nil)))
      (pss_cons (ps_set (i := 8) sc_law.nd rfl (Or.inl rfl) (pe_lstN (pa_cons (pe_lamB (k := 116) T.d__law_told.F (by rfl) T.d__law_told.g T.d__law_told.b sc__law_told rfl (Or.inl rfl) (fun cdg => why_gives T.E_BadText.g) (LamX.TabB.mk tb_law.code tb_law.bm tb_law.gP) qual_law rfl (hr.mono (by decide)) (LamX.lamS_by (sc := defScope s_law) (by decide +kernel)) rfl (fun _ _ _ _ _ => rfl) (fun A outer s H E f d hr => (pe_call (ok_parse_mix T tb_are_figures) (hr.mono (by decide)) (by rfl) T.d_parse_mix.g T.d_parse_mix.F.kp T.d_parse_mix.b .nil (passes_call (takes_of rfl rfl rfl rfl) fun _ _ _ _ h => h) (pa_cons (pv 10) pa_nil)))) pa_nil)))
      (pss_cons (ps_expr (pe_bm PySem.F.plainAttrs_list PySem.F.slot_list_append PySem.F.type_list_append mt_append (pv 8) (pa_cons (pe_lamB (k := 116) T.d__law_told.F (by rfl) T.d__law_told.g T.d__law_told.b sc__law_told rfl (Or.inl rfl) (fun cdg => why_gives T.E_BadText.g) (LamX.TabB.mk tb_law.code tb_law.bm tb_law.gP) qual_law rfl (hr.mono (by decide)) (LamX.lamS_by (sc := defScope s_law) (by decide +kernel)) rfl (fun _ _ _ _ _ => rfl) (fun A outer s H E f d hr => (pe_callK0 (ok_parse_mix T tb_are_figures) (hr.mono (by decide)) (by rfl) T.d_parse_mix.g T.d_parse_mix.F.kp (kb_parse_mix T.d_parse_mix.F) (passes_call (takes_of rfl rfl rfl rfl) fun _ _ _ _ h => h) (pk_cons (pv 10) pk_nil)))) pa_nil)))
      (pss_cons (ps_if (pt_cmpR (op_neD hr.units) (pv 8) (pe_lstN (pa_cons (pv 7) (pa_cons (pv 7) pa_nil))) (nomark _)) (pss_one (ps_ret pe_bl)) pss_nil)
      (pss_cons (ps_set (i := 11) sc_law.nd rfl (Or.inr rfl) (pe_call (ok__law_one_of T) (hr.mono (by decide)) (by rfl) T.d__law_one_of.g T.d__law_one_of.F.kp T.d__law_one_of.b .nil pass0 (pa_cons (pv 2) (pa_cons (pe_lstN (pa_cons pe_non (pa_cons pe_int (pa_cons (pe_lstN (pa_cons pe_str pa_nil)) (pa_cons (pe_tup (pa_cons pe_str pa_nil)) (pa_cons pe_dnewK (pa_cons pe_bl (pa_cons (pv 4) pa_nil)))))))) pa_nil))))
      (pss_cons (ps_set (i := 8) sc_law.nd rfl (Or.inl rfl) (pe_lstN (pa_cons (pe_lamB (k := 116) T.d__law_told.F (by rfl) T.d__law_told.g T.d__law_told.b sc__law_told rfl (Or.inl rfl) (fun cdg => why_gives T.E_BadText.g) (LamX.TabB.mk tb_law.code tb_law.bm tb_law.gP) qual_law rfl (hr.mono (by decide)) (LamX.lamS_by (sc := defScope s_law) (by decide +kernel)) rfl (fun _ _ _ _ _ => rfl) (fun A outer s H E f d hr => (pe_call (ok_parse_term T tb_are_figures) (hr.mono (by decide)) (by rfl) T.d_parse_term.g T.d_parse_term.F.kp T.d_parse_term.b .nil (passes_call (takes_of rfl rfl rfl rfl) fun _ _ _ _ h => h) (pa_cons (pv 11) pa_nil)))) pa_nil)))
      (pss_cons (ps_expr (pe_bm PySem.F.plainAttrs_list PySem.F.slot_list_append PySem.F.type_list_append mt_append (pv 8) (pa_cons (pe_lamB (k := 116) T.d__law_told.F (by rfl) T.d__law_told.g T.d__law_told.b sc__law_told rfl (Or.inl rfl) (fun cdg => why_gives T.E_BadText.g) (LamX.TabB.mk tb_law.code tb_law.bm tb_law.gP) qual_law rfl (hr.mono (by decide)) (LamX.lamS_by (sc := defScope s_law) (by decide +kernel)) rfl (fun _ _ _ _ _ => rfl) (fun A outer s H E f d hr => (pe_call (ok_parse_mix T tb_are_figures) (hr.mono (by decide)) (by rfl) T.d_parse_mix.g T.d_parse_mix.F.kp T.d_parse_mix.b .nil (passes_call (takes_of rfl rfl rfl rfl) fun _ _ _ _ h => h) (pa_cons (pv 11) pa_nil)))) pa_nil)))
      (pss_one (ps_if (pt_cmpR (op_neD hr.units) (pv 8) (pe_lstN (pa_cons (pe_lstN (pa_cons pe_int pa_nil)) (pa_cons (pe_lstN (pa_cons pe_int pa_nil)) pa_nil))) (nomark _)) (pss_one (ps_ret pe_bl)) pss_nil))))))))))))))))))))))
      (pss_one (ps_ret pe_bl))), ?_⟩
    refine n_seq ?_
    refine ⟨_, rfl, a, _, rfl, .inl hS, 3, _, rfl, 1, _, rfl, ?_⟩
    have many : ∃ m : Nat, m ≤ 3 ∧ (if (if ((ns.map V.int).length : Int) < 3 then ((ns.map V.int).length : Int) else 3) > 1 then (if ((ns.map V.int).length : Int) < 3 then ((ns.map V.int).length : Int) else 3) else 1) = ((m : Nat) : Int) := by
      rw [List.length_map]
      by_cases c1 : (ns.length : Int) < 3
      · rw [if_pos c1]
        by_cases c2 : (ns.length : Int) > 1
        · rw [if_pos c2]
          exact ⟨ns.length, by omega, rfl⟩
        · rw [if_neg c2]
          exact ⟨1, by omega, rfl⟩
      · rw [if_neg c1, if_pos (by decide)]
        exact ⟨3, by omega, rfl⟩
    obtain ⟨m, m3, em⟩ := many
    rw [em]
    refine ⟨_, rfl, by omega, by omega, ?_⟩
    rw [Int.toNat_natCast]
    refine for_range (lo := 0) (n := m) (fun i σ G => TBs (tts T) G ∧ SqL K G a (ns.map V.int) ∧ ∃ y1 y2 y3 y4 y5 y6 y7 y8 y9 y10 y11 : Option V, σ = [some (.ref a), y1, y2, y3, y4, y5, y6, y7, y8, y9, y10, y11]) ⟨tbs, hS, none, none, none, none, none, none, none, none, none, none, none, rfl⟩ ?_ ?_
    · clear tbs hS hT em
      rintro i σ H hi ⟨tbs, hS, y1, y2, y3, y4, y5, y6, y7, y8, y9, y10, y11, rfl⟩
      rw [show (0 : Int) + ((i : Nat) : Int) = ((i : Nat) : Int) by omega]
      refine n_name ?_
      dsimp only
      refine n_seq ?_
      refine ⟨_, rfl, _, rfl, a, ns, i, rfl, hS, by omega, by omega, hbits, fun p H1 e1 np ht => ?_⟩
      replace tbs := tbs.ex e1
      replace hS := ex_l e1 hS
      clear e1 np
      dsimp only
      refine ⟨8, rfl, by decide, by decide, ?_⟩
      refine for_range (lo := 0) (n := 8) (fun j σ G => Tape G p ∧ TBs (tts T) G ∧ SqL K G a (ns.map V.int) ∧ ∃ y3 y4 y5 y6 y7 y8 y9 y10 y11 : Option V, σ = [some (.ref a), some (.int (i : Nat)), some (.ref p), y3, y4, y5, y6, y7, y8, y9, y10, y11]) ⟨ht, tbs, hS, y3, y4, y5, y6, y7, y8, y9, y10, y11, rfl⟩ ?_ ?_
      · clear ht tbs hS y3 y4 y5 y6 y7 y8 y9 y10 y11
        rintro j σ H hj ⟨ht, tbs, hS, y3, y4, y5, y6, y7, y8, y9, y10, y11, rfl⟩
        refine n_name ?_
        dsimp only
        -- the term
        refine n_seq ?_
        refine (ek_pick (T := T) (P := TwL 270) rfl (eks_cons (ek_drn (m := 3) (r := 5) rfl (by decide) (by decide)) (eks_cons (ek_long (M := 17) ((eki_two (a := 16) (b := 17) rfl).mono fun i h => by omega) (by decide) (by decide)) (eks_cons (ek_wide (M := 49) ((eki_two (a := 47) (b := 49) rfl).mono fun i h => by omega) (by decide) (by decide)) (eks_cons (ek_drn (m := 2) (r := 3) rfl (by decide) (by decide)) eks_nil)))) (by decide) (by decide)) H (Kp.refl ht tbs) _ fun v d HA td kA dA => ?_
        dsimp only
        -- its words, bent twice
        refine n_seq ?_
        obtain ⟨fd, ⟨S, N, n, tm, n9⟩, _⟩ := id td
        refine ⟨_, rfl, _, rfl, _, rfl, p, v, d, S, N, n, rfl, dA, tm, fd, n9, fun l1 H1 e1 nl1 hl1 => ?_⟩
        have k1 := (Kp.refl kA.t kA.s).ex e1
        refine ⟨p, l1, tw 30 d, 270, 122, rfl, k1.t, hl1, td.bw, by decide, by decide, by decide, fun l2 us2 H2 eb2 ht2 hl2 bw2 => ?_⟩
        have k2 := k1.b eb2 ht2
        refine ⟨by show 1 ≤ sizeLine; decide, fun l3 fl3 nm3 => ?_⟩
        have x3 := Ex.new (o := .lst [V.str "end"]) fl3
        refine ⟨_, rfl, p, 9, rfl, ht2.ex x3, by decide, by decide, fun r H4 r0 r9 eb4 ht4 => ⟨rfl, .inr ⟨_, rfl, ?_⟩⟩⟩
        have k4 := ((Kp.refl k2.t k2.s).ex x3).b eb4 ht4
        have hl4 := k4.ls k2.t hl2
        have hl3 : H4 l3 = some (.lst [V.str "end"]) := ((Kp.refl (k2.t.ex x3) (k2.s.ex x3)).b eb4 ht4).ls (k2.t.ex x3) upd_same
        obtain ⟨b, hb, b1⟩ : ∃ b : Nat, (if decide (V.int r = V.int 0) = true then (1 : Int) else 0) = (b : Nat) ∧ b ≤ 1 := by
          by_cases c : decide (V.int r = V.int 0) = true
          · exact ⟨1, if_pos c, Nat.le_refl _⟩
          · exact ⟨0, if_neg c, Nat.zero_le _⟩
        rw [hb]
        have eR : (List.replicate ((b : Nat) : Int).toNat [V.str "end"]).flatten = (List.replicate b ("end" : Str)).map V.str := by
          match b, b1 with
          | 0, _ => rfl
          | 1, _ => rfl
        refine ⟨l3, _, _, rfl, rfl, hl3, by omega, by omega, ?_, fun l5 fl5 => ?_⟩
        · show 1 * ((b : Nat) : Int).toNat ≤ sizeLine
          exact Nat.le_trans (show 1 * ((b : Nat) : Int).toNat ≤ 1 by omega) (by decide)
        rw [eR]
        have x5 := Ex.new (o := .lst ((List.replicate b ("end" : Str)).map V.str)) fl5
        refine ⟨l2, l5, _, _, rfl, rfl, x5 _ _ hl4, upd_same, ?_, fun l6 fl6 => ?_⟩
        · rw [List.length_map, List.length_map, List.length_replicate]
          have := bw2.1
          exact Nat.le_of_lt (small1000 (by omega))
        have x6 := Ex.new (o := .lst (us2.map V.str ++ (List.replicate b ("end" : Str)).map V.str)) fl6
        have k6 := (k4.ex x5).ex x6
        have bw6 : BW 272 123 (us2 ++ List.replicate b ("end" : Str)) := ⟨by rw [List.length_append, List.length_replicate]; have := bw2.1; omega, fun x hx => by
          rcases List.mem_append.mp hx with hx | hx
          · exact bw2.2 x hx
          · rw [List.eq_of_mem_replicate hx]
            exact end_wb.up (by decide)⟩
        refine ⟨p, l6, us2 ++ List.replicate b ("end" : Str), 272, 123, rfl, k6.t, by rw [upd_same, List.map_append], bw6, by decide, by decide, by decide, fun l7 us H7 eb7 ht7 hl7 bw7 => ?_⟩
        have kB := kA.trans (k2.trans (k6.b eb7 ht7))
        have dB := (k2.trans (k6.b eb7 ht7)).dq kA.t dA
        replace bw7 : BW 900 200 us := bw7.up (by decide) (by decide)
        clear k1 k2 k4 k6 hl1 hl2 hl3 hl4 hb eR x3 x5 x6 eb2 eb4 eb7 ht2 ht4 e1 bw2 bw6 kA dA nl1 nm3 fl3 fl5 fl6
        dsimp only
        -- the text
        refine n_seq ?_
        refine ⟨⟨_, rfl⟩, _, rfl, _, l7, us, rfl, rfl, .inl (SqL.of hl7), bw_jsz bw7, ?_⟩
        rw [jn_eq]
        clear hl7
        dsimp only
        -- what is due
        refine n_seq ?_
        refine ⟨_, rfl, ⟨_, rfl⟩, _, _, rfl, rfl, by decide +kernel, ?_, ?_⟩
        · exact Nat.le_trans (show (jn us).length + 2 ≤ 200002 by have := bw_len bw7; omega) (by decide)
        rw [wb_split bw7.2]
        intro l8 fl8
        have x8 := Ex.new (o := .lst ((spW us).map V.str)) fl8
        refine ⟨l8, spW us, rfl, upd_same, bw_wsl bw7, fun ld H9 e9 hd => ?_⟩
        have kC := (kB.ex x8).ex e9
        have dC := Dq.ex (x8.trans e9) _ _ dB
        clear x8 e9 kB dB fl8
        have sp7 := wb_split bw7.2
        have ln7 : (jn us).length ≤ 1000000 := by have := bw_len bw7; omega
        have ok7 := (bw_wsl bw7).1
        generalize jn us = txt at sp7 ln7
        generalize spW us = ws at sp7 ok7 hd
        clear bw7
        dsimp only
        -- the first that is told
        refine n_seq ?_
        refine lam_told kC.s fun f l6 G xe ts nml hll => ⟨_, rfl, told_sp sp7 ln7 ok7 ts nml hll fun l2 G3 x3 t3 nm2 h2 => ?_⟩
        have k12 : Kp T p H9 G3 := ((Kp.refl kC.t kC.s).xt xe ts).xt x3 t3
        refine ⟨by show 1 ≤ sizeLine; decide, fun tl ftl nmtl => ?_⟩
        have xl := Ex.new (o := .lst [V.ref l2]) ftl
        have n8 : ∀ oo, (∀ ps, oo ≠ HO.tbl ps) → H9 tl ≠ some oo := by
          intro oo no hh
          by_cases ct : tl = p
          · subst ct
            obtain ⟨_, _, hh', _⟩ := k12.t
            rw [hh'] at ftl
            cases ftl
          · have := k12.k tl _ ct no hh
            rw [this] at ftl
            cases ftl
        have kT : Kp T p H9 (upd G3 tl (.lst [.ref l2])) := k12.ex xl
        have l2tl : l2 ≠ tl := by
          rintro rfl
          rw [ftl] at h2
          cases h2
        have h2T := xl _ _ h2
        have htl : (upd G3 tl (.lst [.ref l2])) tl = some (.lst [V.ref l2]) := upd_same
        clear x3 t3 xl k12 xe ts hll nml h2
        generalize upd G3 tl (.lst [.ref l2]) = HT at kT h2T htl
        dsimp only
        -- the second
        refine n_seq ?_
        refine ⟨_, rfl, .inl ⟨rfl, _, SqL.of htl⟩, ?_⟩
        refine lam_told kT.s fun f7 l7 G5 xe5 ts5 nml5 hll5 => ⟨_, rfl, told_sp sp7 ln7 ok7 ts5 nml5 hll5 fun l3 G8 x7 t7 nm3 h3 => ?_⟩
        have j3 : Kp T p HT G8 := ((Kp.refl kT.t kT.s).xt xe5 ts5).xt x7 t7
        have htl3 := j3.ls kT.t htl
        have h23 := j3.ls kT.t h2T
        have l3tl : l3 ≠ tl := by
          rintro rfl
          rw [htl3] at h3
          exact bad_ne h3.symm
        refine ⟨tl, [.ref l2], .ref l3, rfl, rfl, htl3, (by show 1 < sizeLine; decide), ?_⟩
        have exU : ExB tl G8 (upd G8 tl (.lst ([V.ref l2] ++ [V.ref l3]))) := ExB.upd (ExB.refl tl G8)
        have kU : Kp T p H9 (upd G8 tl (.lst ([V.ref l2] ++ [V.ref l3]))) := Kp.mut (kT.trans j3) n8 htl3
        have hU : (upd G8 tl (.lst ([V.ref l2] ++ [V.ref l3]))) tl = some (.lst [V.ref l2, V.ref l3]) := upd_same
        have h2U := exU _ _ l2tl h23
        have h3U := exU _ _ l3tl h3
        clear x7 t7 h3 htl3 exU j3 xe5 ts5 nml5 hll5 h2T htl kT h23
        generalize upd G8 tl (.lst ([V.ref l2] ++ [V.ref l3])) = HU at kU hU h2U h3U
        dsimp only
        -- just as is due
        refine n_seq ?_
        refine ⟨_, rfl, _, rfl, _, rfl, by show 2 ≤ sizeLine; decide, fun l9 fl9 nm9 => ?_⟩
        have x9 := Ex.new (o := .lst [V.ref ld, V.ref ld]) fl9
        have hdU := x9 _ _ (kU.ls kC.t hd)
        refine ⟨.list [.list (badD (badT ws)), .list (badD (badT ws))], .list [.list (badD (badT ws)), .list (badD (badT ws))], .lst (SqL.of (x9 _ _ hU)) (.cons (bad_dp (x9 _ _ h2U)) (.cons (bad_dp (x9 _ _ h3U)) .nil)), .lst (SqL.of upd_same) (.cons (bad_dp hdU) (.cons (bad_dp hdU) .nil)), shp_bad _, shp_bad _, _, rfl, ifF' (eqv_bad _) ?_⟩
        refine n_next ?_
        have kV := kU.ex x9
        have kE := kC.trans kV
        have dE := kV.dq kC.t dC
        clear kU hU h2U h3U hdU kV hd sp7 ln7 ok7 n8 l2tl l3tl nm2 nm3 nmtl
        generalize upd HU l9 (.lst [V.ref ld, V.ref ld]) = HE at kE dE
        clear x9 fl9 kC dC
        dsimp only
        -- the mix
        refine n_seq ?_
        refine (ek_pick (T := T) (P := MxD) rfl (eks_cons (ek_dmx rfl) (eks_cons (ek_rep (L := 240) (M := 3) (ek_wide (M := 47) (L := 240) (eki_c (i := 47) (by decide)) (by decide) (by decide)) (fun d h => h) ((eki_two (a := 2) (b := 3) rfl).mono fun i h => by omega) (by decide) (by decide)) (eks_cons (ek_rep (L := 60) (M := 3) (ek_long (M := 8) (L := 60) (eki_c (i := 8) (by decide)) (by decide) (by decide)) (fun d h => h) ((eki_two (a := 2) (b := 3) rfl).mono fun i h => by omega) (by decide) (by decide)) (eks_cons (ek_tup1 (L := 270) (ek_var rfl kE.t dE td) (fun d h => h) (by decide)) (eks_cons (ek_rep (L := 5) (M := 5) ek_end (fun d h => h) ((eki_two (a := 4) (b := 5) rfl).mono fun i h => by omega) (by decide) (by decide)) eks_nil))))) (by decide) (by decide)) HE (Kp.refl kE.t kE.s) _ fun vm dm HM md kM qM => ?_
        obtain ⟨ds, rfl, mx⟩ := md
        have kF := kE.trans kM
        have dF := kM.dq kE.t dE
        clear kE dE kM
        dsimp only
        -- its words, bent, and the text
        refine n_seq ?_
        refine ⟨⟨_, rfl⟩, _, rfl, _, rfl, p, vm, ds, rfl, qM, mx, fun l1 H1 e1 hl1 => ?_⟩
        have k1 := (Kp.refl kF.t kF.s).ex e1
        refine ⟨p, l1, wMix :: lw 30 ds, 803, 122, rfl, k1.t, hl1, mx.bw, by decide, by decide, by decide, fun l7 us H7 eb7 ht7 hl7 bw7 => ?_⟩
        have k7 := k1.b eb7 ht7
        have kG := kF.trans k7
        have dG := k7.dq kF.t dF
        replace bw7 : BW 900 200 us := bw7.up (by decide) (by decide)
        refine ⟨_, l7, us, rfl, rfl, .inl (SqL.of hl7), bw_jsz bw7, ?_⟩
        rw [jn_eq]
        clear k1 k7 hl1 hl7 eb7 ht7 e1 kF dF qM mx
        dsimp only
        -- what is due
        refine n_seq ?_
        refine ⟨_, rfl, ⟨_, rfl⟩, _, _, rfl, rfl, by decide +kernel, ?_, ?_⟩
        · exact Nat.le_trans (show (jn us).length + 2 ≤ 200002 by have := bw_len bw7; omega) (by decide)
        rw [wb_split bw7.2]
        intro l8 fl8
        have x8 := Ex.new (o := .lst ((spW us).map V.str)) fl8
        refine ⟨l8, spW us, rfl, upd_same, bw_wsl bw7, fun ld H19 e9 hd => ?_⟩
        have kI := (kG.ex x8).ex e9
        have dI := Dq.ex (x8.trans e9) _ _ dG
        clear x8 e9 kG dG fl8
        have sp7 := wb_split bw7.2
        have ln7 : (jn us).length ≤ 1000000 := by have := bw_len bw7; omega
        have ok7 := (bw_wsl bw7).1
        generalize jn us = txt2 at sp7 ln7
        generalize spW us = ws at sp7 ok7 hd
        clear bw7
        dsimp only
        -- the first that is told
        refine n_seq ?_
        refine lam_told kI.s fun f l6 G xe ts nml hll => ⟨_, rfl, told_sp sp7 ln7 ok7 ts nml hll fun l2 G3 x3 t3 nm2 h2 => ?_⟩
        have k12 : Kp T p H19 G3 := ((Kp.refl kI.t kI.s).xt xe ts).xt x3 t3
        refine ⟨by show 1 ≤ sizeLine; decide, fun tl ftl nmtl => ?_⟩
        have xl := Ex.new (o := .lst [V.ref l2]) ftl
        have n8 : ∀ oo, (∀ ps, oo ≠ HO.tbl ps) → H19 tl ≠ some oo := by
          intro oo no hh
          by_cases ct : tl = p
          · subst ct
            obtain ⟨_, _, hh', _⟩ := k12.t
            rw [hh'] at ftl
            cases ftl
          · have := k12.k tl _ ct no hh
            rw [this] at ftl
            cases ftl
        have kT : Kp T p H19 (upd G3 tl (.lst [.ref l2])) := k12.ex xl
        have l2tl : l2 ≠ tl := by
          rintro rfl
          rw [ftl] at h2
          cases h2
        have h2T := xl _ _ h2
        have htl : (upd G3 tl (.lst [.ref l2])) tl = some (.lst [V.ref l2]) := upd_same
        clear x3 t3 xl k12 xe ts hll nml h2
        generalize upd G3 tl (.lst [.ref l2]) = HT at kT h2T htl
        dsimp only
        -- the second
        refine n_seq ?_
        refine ⟨_, rfl, .inl ⟨rfl, _, SqL.of htl⟩, ?_⟩
        refine lam_told kT.s fun f7 l7 G5 xe5 ts5 nml5 hll5 => ⟨_, rfl, told_sp sp7 ln7 ok7 ts5 nml5 hll5 fun l3 G8 x7 t7 nm3 h3 => ?_⟩
        have j3 : Kp T p HT G8 := ((Kp.refl kT.t kT.s).xt xe5 ts5).xt x7 t7
        have htl3 := j3.ls kT.t htl
        have h23 := j3.ls kT.t h2T
        have l3tl : l3 ≠ tl := by
          rintro rfl
          rw [htl3] at h3
          exact bad_ne h3.symm
        refine ⟨tl, [.ref l2], .ref l3, rfl, rfl, htl3, (by show 1 < sizeLine; decide), ?_⟩
        have exU : ExB tl G8 (upd G8 tl (.lst ([V.ref l2] ++ [V.ref l3]))) := ExB.upd (ExB.refl tl G8)
        have kU : Kp T p H19 (upd G8 tl (.lst ([V.ref l2] ++ [V.ref l3]))) := Kp.mut (kT.trans j3) n8 htl3
        have hU : (upd G8 tl (.lst ([V.ref l2] ++ [V.ref l3]))) tl = some (.lst [V.ref l2, V.ref l3]) := upd_same
        have h2U := exU _ _ l2tl h23
        have h3U := exU _ _ l3tl h3
        clear x7 t7 h3 htl3 exU j3 xe5 ts5 nml5 hll5 h2T htl kT h23
        generalize upd G8 tl (.lst ([V.ref l2] ++ [V.ref l3])) = HU at kU hU h2U h3U
        dsimp only
        -- just as is due
        refine n_seq ?_
        refine ⟨_, rfl, _, rfl, _, rfl, by show 2 ≤ sizeLine; decide, fun l9 fl9 nm9 => ?_⟩
        have x9 := Ex.new (o := .lst [V.ref ld, V.ref ld]) fl9
        have hdU := x9 _ _ (kU.ls kI.t hd)
        refine ⟨.list [.list (badD (badM ws)), .list (badD (badM ws))], .list [.list (badD (badM ws)), .list (badD (badM ws))], .lst (SqL.of (x9 _ _ hU)) (.cons (bad_dp (x9 _ _ h2U)) (.cons (bad_dp (x9 _ _ h3U)) .nil)), .lst (SqL.of upd_same) (.cons (bad_dp hdU) (.cons (bad_dp hdU) .nil)), shp_bad _, shp_bad _, _, rfl, ifF' (eqv_bad _) ?_⟩
        refine n_next ?_
        have kV := kU.ex x9
        have kJ := kI.trans kV
        have dJ := kV.dq kI.t dI
        clear kU hU h2U h3U hdU kV hd sp7 ln7 ok7 n8 l2tl l3tl nm2 nm3 nmtl
        generalize upd HU l9 (.lst [V.ref ld, V.ref ld]) = HJ at kJ dJ
        clear x9 fl9 kI dI
        dsimp only
        -- no text
        refine n_seq ?_
        refine (ek_pick (T := T) (P := NoT) rfl (ek_things rfl kJ.t dJ td.noT) (by decide) (by decide)) HJ (Kp.refl kJ.t kJ.s) _ fun vt dt HT0 no kt qt => ?_
        have kL := kJ.trans kt
        clear kt kJ dJ
        dsimp only
        -- the first that is told
        refine n_seq ?_
        refine lam_told kL.s fun f l6 G xe ts nml hll => ⟨_, rfl, told_no (q := p) (((Kp.refl kL.t kL.s).xt xe ts).dq kL.t qt) no ts fun l2 G3 x3 t3 nm2 h2 => ?_⟩
        have k12 : Kp T p HT0 G3 := ((Kp.refl kL.t kL.s).xt xe ts).xt x3 t3
        refine ⟨by show 1 ≤ sizeLine; decide, fun tl ftl nmtl => ?_⟩
        have xl := Ex.new (o := .lst [V.ref l2]) ftl
        have n8 : ∀ oo, (∀ ps, oo ≠ HO.tbl ps) → HT0 tl ≠ some oo := by
          intro oo no hh
          by_cases ct : tl = p
          · subst ct
            obtain ⟨_, _, hh', _⟩ := k12.t
            rw [hh'] at ftl
            cases ftl
          · have := k12.k tl _ ct no hh
            rw [this] at ftl
            cases ftl
        have kT : Kp T p HT0 (upd G3 tl (.lst [.ref l2])) := k12.ex xl
        have l2tl : l2 ≠ tl := by
          rintro rfl
          rw [ftl] at h2
          cases h2
        have h2T := xl _ _ h2
        have htl : (upd G3 tl (.lst [.ref l2])) tl = some (.lst [V.ref l2]) := upd_same
        clear x3 t3 xl k12 xe ts hll nml h2
        generalize upd G3 tl (.lst [.ref l2]) = HT at kT h2T htl
        dsimp only
        -- the second
        refine n_seq ?_
        refine ⟨_, rfl, .inl ⟨rfl, _, SqL.of htl⟩, ?_⟩
        refine lam_told kT.s fun f7 l7 G5 xe5 ts5 nml5 hll5 => ⟨_, rfl, told_no (q := p) (((kT.trans ((Kp.refl kT.t kT.s).xt xe5 ts5))).dq kL.t qt) no ts5 fun l3 G8 x7 t7 nm3 h3 => ?_⟩
        have j3 : Kp T p HT G8 := ((Kp.refl kT.t kT.s).xt xe5 ts5).xt x7 t7
        have htl3 := j3.ls kT.t htl
        have h23 := j3.ls kT.t h2T
        have l3tl : l3 ≠ tl := by
          rintro rfl
          rw [htl3] at h3
          cases h3
        refine ⟨tl, [.ref l2], .ref l3, rfl, rfl, htl3, (by show 1 < sizeLine; decide), ?_⟩
        have exU : ExB tl G8 (upd G8 tl (.lst ([V.ref l2] ++ [V.ref l3]))) := ExB.upd (ExB.refl tl G8)
        have kU : Kp T p HT0 (upd G8 tl (.lst ([V.ref l2] ++ [V.ref l3]))) := Kp.mut (kT.trans j3) n8 htl3
        have hU : (upd G8 tl (.lst ([V.ref l2] ++ [V.ref l3]))) tl = some (.lst [V.ref l2, V.ref l3]) := upd_same
        have h2U := exU _ _ l2tl h23
        have h3U := exU _ _ l3tl h3
        clear x7 t7 h3 htl3 exU j3 xe5 ts5 nml5 hll5 h2T htl kT h23
        generalize upd G8 tl (.lst ([V.ref l2] ++ [V.ref l3])) = HU at kU hU h2U h3U
        dsimp only
        -- just as is due
        refine ⟨_, rfl, by show 1 ≤ sizeLine; decide, fun la fla nma => ?_⟩
        have xa := Ex.new (o := .lst [V.int 0]) fla
        refine ⟨by show 1 ≤ sizeLine; decide, fun lb flb nmb => ?_⟩
        have xb := Ex.new (o := .lst [V.int 0]) flb
        refine ⟨by show 2 ≤ sizeLine; decide, fun l9 fl9 nm9 => ?_⟩
        have x9 := Ex.new (o := .lst [V.ref la, V.ref lb]) fl9
        have X := xa.trans (xb.trans x9)
        refine ⟨.list [.list (badD (some 0)), .list (badD (some 0))], .list [.list (badD (some 0)), .list (badD (some 0))], .lst (SqL.of (X _ _ hU)) (.cons (bad_dp (r := some 0) (X _ _ h2U)) (.cons (bad_dp (r := some 0) (X _ _ h3U)) .nil)), .lst (SqL.of upd_same) (.cons (bad_dp (r := some 0) ((xb.trans x9) _ _ upd_same)) (.cons (bad_dp (r := some 0) (x9 _ _ upd_same)) .nil)), shp_bad _, shp_bad _, _, rfl, ifF' (eqv_bad _) ?_⟩
        have kZ := kL.trans (kU.ex X)
        exact n_next ⟨kZ.t, kZ.s, kZ.sl ht hS, _, _, _, _, _, _, _, _, _, rfl⟩
      · rintro σ G ⟨ht, tbs, hS, y3, y4, y5, y6, y7, y8, y9, y10, y11, rfl⟩
        exact ⟨tbs, hS, _, _, y3, y4, y5, y6, y7, y8, y9, y10, y11, rfl⟩
    · rintro σ G ⟨tbs, hS, y1, y2, y3, y4, y5, y6, y7, y8, y9, y10, y11, rfl⟩
      exact k G
end
def CodeK (oc : Value) (vs : Array Value) (c P : Addr) : Prop := ∃ (file : Str) (tf : Tok) (flags : Int) (tg : Tok) (inF : Bool) (text : Int) (tt : Tok), oc = .type "code" ∧ vs.getD 11 .none = .ref P ∧ vs.getD 18 .none = .str file tf ∧
  vs.getD 7 .none = .int flags tg ∧ vs.getD 9 .none = .bool inF ∧ vs.getD 10 .none = .int text tt ∧ c ≠ P
theorem all_mk {l : PySem.W.OpenLaw} {w : World} {K : PySem.W.Frag} {h : Heap} {mg : Str → Option Value} {fa : Addr} (X : K.In h) (G : h.Ns mainGlobals mg) (hfa : mg "law" = some (.ref fa)) (hE : ∀ y ∈ (["are_figures", "law"] : List Str), TabE K y mg h)
    {CC_Reader : Addr}
    {od1 an1 : Option Addr} {sl1 : Array (Option Value)} {oc1 kV1 dc1 pm1 cd1 ct1 : Value} {f1 : Addr}
    {od2 an2 : Option Addr} {sl2 : Array (Option Value)} {oc2 kV2 dc2 pm2 cd2 ct2 : Value} {f2 : Addr}
    {od3 an3 : Option Addr} {sl3 : Array (Option Value)} {oc3 kV3 dc3 pm3 cd3 ct3 : Value} {f3 : Addr}
    {od4 an4 : Option Addr} {sl4 : Array (Option Value)} {oc4 kV4 dc4 pm4 cd4 ct4 : Value} {f4 : Addr}
    {od5 an5 : Option Addr} {sl5 : Array (Option Value)} {oc5 kV5 dc5 pm5 cd5 ct5 : Value} {f5 : Addr}
    {od6 an6 : Option Addr} {sl6 : Array (Option Value)} {oc6 kV6 dc6 pm6 cd6 ct6 : Value} {f6 : Addr}
    {od7 an7 : Option Addr} {sl7 : Array (Option Value)} {oc7 kV7 dc7 pm7 cd7 ct7 : Value} {f7 : Addr}
    {od8 an8 : Option Addr} {sl8 : Array (Option Value)} {oc8 kV8 dc8 pm8 cd8 ct8 : Value} {f8 : Addr}
    {od9 an9 : Option Addr} {sl9 : Array (Option Value)} {oc9 kV9 dc9 pm9 cd9 ct9 : Value} {f9 : Addr}
    {od10 an10 : Option Addr} {sl10 : Array (Option Value)} {oc10 kV10 dc10 pm10 cd10 ct10 : Value} {f10 : Addr}
    {od11 an11 : Option Addr} {sl11 : Array (Option Value)} {oc11 kV11 dc11 pm11 cd11 ct11 : Value} {f11 : Addr}
    {od12 an12 : Option Addr} {sl12 : Array (Option Value)} {oc12 kV12 dc12 pm12 cd12 ct12 : Value} {f12 : Addr}
    {od13 an13 : Option Addr} {sl13 : Array (Option Value)} {oc13 kV13 dc13 pm13 cd13 ct13 : Value} {f13 : Addr}
    {od14 an14 : Option Addr} {sl14 : Array (Option Value)} {oc14 kV14 dc14 pm14 cd14 ct14 : Value} {f14 : Addr}
    {od15 an15 : Option Addr} {sl15 : Array (Option Value)} {oc15 kV15 dc15 pm15 cd15 ct15 : Value} {f15 : Addr}
    {od16 an16 : Option Addr} {sl16 : Array (Option Value)} {oc16 kV16 dc16 pm16 cd16 ct16 : Value} {f16 : Addr}
    {od17 an17 : Option Addr} {sl17 : Array (Option Value)} {oc17 kV17 dc17 pm17 cd17 ct17 : Value} {f17 : Addr}
    {od18 an18 : Option Addr} {sl18 : Array (Option Value)} {oc18 kV18 dc18 pm18 cd18 ct18 : Value} {f18 : Addr}
    {od19 an19 : Option Addr} {sl19 : Array (Option Value)} {oc19 kV19 dc19 pm19 cd19 ct19 : Value} {f19 : Addr}
    {od20 an20 : Option Addr} {sl20 : Array (Option Value)} {oc20 kV20 dc20 pm20 cd20 ct20 : Value} {f20 : Addr}
    {od21 an21 : Option Addr} {sl21 : Array (Option Value)} {oc21 kV21 dc21 pm21 cd21 ct21 : Value} {f21 : Addr}
    {od22 an22 : Option Addr} {sl22 : Array (Option Value)} {oc22 kV22 dc22 pm22 cd22 ct22 : Value} {f22 : Addr}
    {od23 an23 : Option Addr} {sl23 : Array (Option Value)} {oc23 kV23 dc23 pm23 cd23 ct23 : Value} {f23 : Addr}
    {od24 an24 : Option Addr} {sl24 : Array (Option Value)} {oc24 kV24 dc24 pm24 cd24 ct24 : Value} {f24 : Addr}
    {od25 an25 : Option Addr} {sl25 : Array (Option Value)} {oc25 kV25 dc25 pm25 cd25 ct25 : Value} {f25 : Addr}
    {od26 an26 : Option Addr} {sl26 : Array (Option Value)} {oc26 kV26 dc26 pm26 cd26 ct26 : Value} {f26 : Addr}
    {od27 an27 : Option Addr} {sl27 : Array (Option Value)} {oc27 kV27 dc27 pm27 cd27 ct27 : Value} {f27 : Addr}
    {od28 an28 : Option Addr} {sl28 : Array (Option Value)} {oc28 kV28 dc28 pm28 cd28 ct28 : Value} {f28 : Addr}
    {od29 an29 : Option Addr} {sl29 : Array (Option Value)} {oc29 kV29 dc29 pm29 cd29 ct29 : Value} {f29 : Addr}
    {od30 an30 : Option Addr} {sl30 : Array (Option Value)} {oc30 kV30 dc30 pm30 cd30 ct30 : Value} {f30 : Addr}
    {od31 an31 : Option Addr} {sl31 : Array (Option Value)} {oc31 kV31 dc31 pm31 cd31 ct31 : Value} {f31 : Addr}
    {od32 an32 : Option Addr} {sl32 : Array (Option Value)} {oc32 kV32 dc32 pm32 cd32 ct32 : Value} {f32 : Addr}
    {od33 an33 : Option Addr} {sl33 : Array (Option Value)} {oc33 kV33 dc33 pm33 cd33 ct33 : Value} {f33 : Addr}
    {od34 an34 : Option Addr} {sl34 : Array (Option Value)} {oc34 kV34 dc34 pm34 cd34 ct34 : Value} {f34 : Addr}
    {od35 an35 : Option Addr} {sl35 : Array (Option Value)} {oc35 kV35 dc35 pm35 cd35 ct35 : Value} {f35 : Addr}
    {od36 an36 : Option Addr} {sl36 : Array (Option Value)} {oc36 kV36 dc36 pm36 cd36 ct36 : Value} {f36 : Addr}
    {od37 an37 : Option Addr} {sl37 : Array (Option Value)} {oc37 kV37 dc37 pm37 cd37 ct37 : Value} {f37 : Addr}
    {od38 an38 : Option Addr} {sl38 : Array (Option Value)} {oc38 kV38 dc38 pm38 cd38 ct38 : Value} {f38 : Addr}
    {od39 an39 : Option Addr} {sl39 : Array (Option Value)} {oc39 kV39 dc39 pm39 cd39 ct39 : Value} {f39 : Addr}
    {od40 an40 : Option Addr} {sl40 : Array (Option Value)} {oc40 kV40 dc40 pm40 cd40 ct40 : Value} {f40 : Addr}
    {od41 an41 : Option Addr} {sl41 : Array (Option Value)} {oc41 kV41 dc41 pm41 cd41 ct41 : Value} {f41 : Addr}
    {od42 an42 : Option Addr} {sl42 : Array (Option Value)} {oc42 kV42 dc42 pm42 cd42 ct42 : Value} {f42 : Addr}
    {od43 an43 : Option Addr} {sl43 : Array (Option Value)} {oc43 kV43 dc43 pm43 cd43 ct43 : Value} {f43 : Addr}
    {aN : Addr} {ddN : Option Addr} {tN : Tok} {nN : Nat} {slN : Array (Option Value)}
    {tMOST_STEPS : Tok}
    {tMOST_PARTS : Tok}
    
    {tMOST_TERMS : Tok}
    {tMOST_MIX_PARTS : Tok}
    {tMOST_FIGURES : Tok}
    
    
    
    
    
    {CM_ fM_ : Addr} {odM_ anM_ : Option Addr} {slM_ : Array (Option Value)} {ocM_ kVM_ dcM_ pmM_ cdM_ ctM_ : Value}
    {C_BadText f_BadText : Addr} {od_BadText an_BadText : Option Addr} {sl_BadText : Array (Option Value)} {oc_BadText kV_BadText dc_BadText pm_BadText cd_BadText ct_BadText : Value}
    {cA0 PA0 : Addr} {ocA0 : Value} {ddA0 : Option Addr} {vsA0 : Array Value} {slA0 : Array (Option Value)}
    {cA1 PA1 : Addr} {ocA1 : Value} {ddA1 : Option Addr} {vsA1 : Array Value} {slA1 : Array (Option Value)}
    (zC_Reader : PySem.W.nsIn K mainGlobals "Reader" = some (some (.ref CC_Reader))) (pgC_Reader : PySem.W.plainGet K CC_Reader Str.empty = true) (hdC_Reader : PySem.W.hasDictIn K CC_Reader = true) (poC_Reader : PySem.W.plainOver K CC_Reader = true) (saC_Reader : PySem.W.findIn K (.ref CC_Reader) "__setattr__" = some (some (.builtin "object.__setattr__"))) (mkC_Reader : PySem.W.makesIn K CC_Reader = true) (kpC_Reader : PySem.W.keepIn K (.ref CC_Reader) = true)
    (a1 : PySem.W.nsIn K mainGlobals "is_whole" = some (some (.ref f1))) (l1 : K.lookup f1 = some ⟨oc1, od1, .func (PySem.W.fnOf "is_whole" "is_whole" (defArgs s_is_whole) (defBody s_is_whole) (defScope s_is_whole) .none kV1 dc1 pm1 an1 cd1 ct1), sl1⟩) (c1 : PySem.W.codeIn K cd1 "is_whole" = true) (k1 : PySem.W.keepIn K (.ref f1) = true)
    (a2 : PySem.W.nsIn K mainGlobals "is_fraction" = some (some (.ref f2))) (l2 : K.lookup f2 = some ⟨oc2, od2, .func (PySem.W.fnOf "is_fraction" "is_fraction" (defArgs s_is_fraction) (defBody s_is_fraction) (defScope s_is_fraction) .none kV2 dc2 pm2 an2 cd2 ct2), sl2⟩) (c2 : PySem.W.codeIn K cd2 "is_fraction" = true) (k2 : PySem.W.keepIn K (.ref f2) = true)
    (a3 : PySem.W.nsIn K mainGlobals "are_figures" = some (some (.ref f3))) (l3 : K.lookup f3 = some ⟨oc3, od3, .func (PySem.W.fnOf "are_figures" "are_figures" (defArgs s_are_figures) (defBody s_are_figures) (defScope s_are_figures) .none kV3 dc3 pm3 an3 cd3 ct3), sl3⟩) (c3 : PySem.W.codeIn K cd3 "are_figures" = true) (k3 : PySem.W.keepIn K (.ref f3) = true)
    (a4 : PySem.W.nsIn K mainGlobals "parse_fraction" = some (some (.ref f4))) (l4 : K.lookup f4 = some ⟨oc4, od4, .func (PySem.W.fnOf "parse_fraction" "parse_fraction" (defArgs s_parse_fraction) (defBody s_parse_fraction) (defScope s_parse_fraction) .none kV4 dc4 pm4 an4 cd4 ct4), sl4⟩) (c4 : PySem.W.codeIn K cd4 "parse_fraction" = true) (k4 : PySem.W.keepIn K (.ref f4) = true)
    (a5 : PySem.W.nsIn K mainGlobals "parse_term" = some (some (.ref f5))) (l5 : K.lookup f5 = some ⟨oc5, od5, .func (PySem.W.fnOf "parse_term" "parse_term" (defArgs s_parse_term) (defBody s_parse_term) (defScope s_parse_term) .none kV5 dc5 pm5 an5 cd5 ct5), sl5⟩) (c5 : PySem.W.codeIn K cd5 "parse_term" = true) (k5 : PySem.W.keepIn K (.ref f5) = true)
    (a6 : PySem.W.nsIn K mainGlobals "parse_mix" = some (some (.ref f6))) (l6 : K.lookup f6 = some ⟨oc6, od6, .func (PySem.W.fnOf "parse_mix" "parse_mix" (defArgs s_parse_mix) (defBody s_parse_mix) (defScope s_parse_mix) .none kV6 dc6 pm6 an6 cd6 ct6), sl6⟩) (c6 : PySem.W.codeIn K cd6 "parse_mix" = true) (k6 : PySem.W.keepIn K (.ref f6) = true)
    (a7 : PySem.W.nsIn K mainGlobals "_law_tape" = some (some (.ref f7))) (l7 : K.lookup f7 = some ⟨oc7, od7, .func (PySem.W.fnOf "_law_tape" "_law_tape" (defArgs s__law_tape) (defBody s__law_tape) (defScope s__law_tape) .none kV7 dc7 pm7 an7 cd7 ct7), sl7⟩) (c7 : PySem.W.codeIn K cd7 "_law_tape" = true) (k7 : PySem.W.keepIn K (.ref f7) = true)
    (a8 : PySem.W.nsIn K mainGlobals "_law_pick" = some (some (.ref f8))) (l8 : K.lookup f8 = some ⟨oc8, od8, .func (PySem.W.fnOf "_law_pick" "_law_pick" (defArgs s__law_pick) (defBody s__law_pick) (defScope s__law_pick) .none kV8 dc8 pm8 an8 cd8 ct8), sl8⟩) (c8 : PySem.W.codeIn K cd8 "_law_pick" = true) (k8 : PySem.W.keepIn K (.ref f8) = true)
    (a9 : PySem.W.nsIn K mainGlobals "_law_one_of" = some (some (.ref f9))) (l9 : K.lookup f9 = some ⟨oc9, od9, .func (PySem.W.fnOf "_law_one_of" "_law_one_of" (defArgs s__law_one_of) (defBody s__law_one_of) (defScope s__law_one_of) .none kV9 dc9 pm9 an9 cd9 ct9), sl9⟩) (c9 : PySem.W.codeIn K cd9 "_law_one_of" = true) (k9 : PySem.W.keepIn K (.ref f9) = true)
    (a10 : PySem.W.nsIn K mainGlobals "_law_frac" = some (some (.ref f10))) (l10 : K.lookup f10 = some ⟨oc10, od10, .func (PySem.W.fnOf "_law_frac" "_law_frac" (defArgs s__law_frac) (defBody s__law_frac) (defScope s__law_frac) .none kV10 dc10 pm10 an10 cd10 ct10), sl10⟩) (c10 : PySem.W.codeIn K cd10 "_law_frac" = true) (k10 : PySem.W.keepIn K (.ref f10) = true)
    (a11 : PySem.W.nsIn K mainGlobals "_law_drawn_pay" = some (some (.ref f11))) (l11 : K.lookup f11 = some ⟨oc11, od11, .func (PySem.W.fnOf "_law_drawn_pay" "_law_drawn_pay" (defArgs s__law_drawn_pay) (defBody s__law_drawn_pay) (defScope s__law_drawn_pay) .none kV11 dc11 pm11 an11 cd11 ct11), sl11⟩) (c11 : PySem.W.codeIn K cd11 "_law_drawn_pay" = true) (k11 : PySem.W.keepIn K (.ref f11) = true)
    (a12 : PySem.W.nsIn K mainGlobals "_law_drawn_weight" = some (some (.ref f12))) (l12 : K.lookup f12 = some ⟨oc12, od12, .func (PySem.W.fnOf "_law_drawn_weight" "_law_drawn_weight" (defArgs s__law_drawn_weight) (defBody s__law_drawn_weight) (defScope s__law_drawn_weight) .none kV12 dc12 pm12 an12 cd12 ct12), sl12⟩) (c12 : PySem.W.codeIn K cd12 "_law_drawn_weight" = true) (k12 : PySem.W.keepIn K (.ref f12) = true)
    (a13 : PySem.W.nsIn K mainGlobals "_law_drawn_term" = some (some (.ref f13))) (l13 : K.lookup f13 = some ⟨oc13, od13, .func (PySem.W.fnOf "_law_drawn_term" "_law_drawn_term" (defArgs s__law_drawn_term) (defBody s__law_drawn_term) (defScope s__law_drawn_term) .none kV13 dc13 pm13 an13 cd13 ct13), sl13⟩) (c13 : PySem.W.codeIn K cd13 "_law_drawn_term" = true) (k13 : PySem.W.keepIn K (.ref f13) = true)
    (a14 : PySem.W.nsIn K mainGlobals "_law_within" = some (some (.ref f14))) (l14 : K.lookup f14 = some ⟨oc14, od14, .func (PySem.W.fnOf "_law_within" "_law_within" (defArgs s__law_within) (defBody s__law_within) (defScope s__law_within) .none kV14 dc14 pm14 an14 cd14 ct14), sl14⟩) (c14 : PySem.W.codeIn K cd14 "_law_within" = true) (k14 : PySem.W.keepIn K (.ref f14) = true)
    (a15 : PySem.W.nsIn K mainGlobals "_law_counts" = some (some (.ref f15))) (l15 : K.lookup f15 = some ⟨oc15, od15, .func (PySem.W.fnOf "_law_counts" "_law_counts" (defArgs s__law_counts) (defBody s__law_counts) (defScope s__law_counts) .none kV15 dc15 pm15 an15 cd15 ct15), sl15⟩) (c15 : PySem.W.codeIn K cd15 "_law_counts" = true) (k15 : PySem.W.keepIn K (.ref f15) = true)
    (a16 : PySem.W.nsIn K mainGlobals "_law_drawn_mix" = some (some (.ref f16))) (l16 : K.lookup f16 = some ⟨oc16, od16, .func (PySem.W.fnOf "_law_drawn_mix" "_law_drawn_mix" (defArgs s__law_drawn_mix) (defBody s__law_drawn_mix) (defScope s__law_drawn_mix) .none kV16 dc16 pm16 an16 cd16 ct16), sl16⟩) (c16 : PySem.W.codeIn K cd16 "_law_drawn_mix" = true) (k16 : PySem.W.keepIn K (.ref f16) = true)
    (a17 : PySem.W.nsIn K mainGlobals "_law_long" = some (some (.ref f17))) (l17 : K.lookup f17 = some ⟨oc17, od17, .func (PySem.W.fnOf "_law_long" "_law_long" (defArgs s__law_long) (defBody s__law_long) (defScope s__law_long) .none kV17 dc17 pm17 an17 cd17 ct17), sl17⟩) (c17 : PySem.W.codeIn K cd17 "_law_long" = true) (k17 : PySem.W.keepIn K (.ref f17) = true)
    (a18 : PySem.W.nsIn K mainGlobals "_law_wide" = some (some (.ref f18))) (l18 : K.lookup f18 = some ⟨oc18, od18, .func (PySem.W.fnOf "_law_wide" "_law_wide" (defArgs s__law_wide) (defBody s__law_wide) (defScope s__law_wide) .none kV18 dc18 pm18 an18 cd18 ct18), sl18⟩) (c18 : PySem.W.codeIn K cd18 "_law_wide" = true) (k18 : PySem.W.keepIn K (.ref f18) = true)
    (a19 : PySem.W.nsIn K mainGlobals "_law_number" = some (some (.ref f19))) (l19 : K.lookup f19 = some ⟨oc19, od19, .func (PySem.W.fnOf "_law_number" "_law_number" (defArgs s__law_number) (defBody s__law_number) (defScope s__law_number) .none kV19 dc19 pm19 an19 cd19 ct19), sl19⟩) (c19 : PySem.W.codeIn K cd19 "_law_number" = true) (k19 : PySem.W.keepIn K (.ref f19) = true)
    (a20 : PySem.W.nsIn K mainGlobals "_law_words" = some (some (.ref f20))) (l20 : K.lookup f20 = some ⟨oc20, od20, .func (PySem.W.fnOf "_law_words" "_law_words" (defArgs s__law_words) (defBody s__law_words) (defScope s__law_words) .none kV20 dc20 pm20 an20 cd20 ct20), sl20⟩) (c20 : PySem.W.codeIn K cd20 "_law_words" = true) (k20 : PySem.W.keepIn K (.ref f20) = true)
    (a21 : PySem.W.nsIn K mainGlobals "_law_mix_words" = some (some (.ref f21))) (l21 : K.lookup f21 = some ⟨oc21, od21, .func (PySem.W.fnOf "_law_mix_words" "_law_mix_words" (defArgs s__law_mix_words) (defBody s__law_mix_words) (defScope s__law_mix_words) .none kV21 dc21 pm21 an21 cd21 ct21), sl21⟩) (c21 : PySem.W.codeIn K cd21 "_law_mix_words" = true) (k21 : PySem.W.keepIn K (.ref f21) = true)
    (a22 : PySem.W.nsIn K mainGlobals "_law_grown_term" = some (some (.ref f22))) (l22 : K.lookup f22 = some ⟨oc22, od22, .func (PySem.W.fnOf "_law_grown_term" "_law_grown_term" (defArgs s__law_grown_term) (defBody s__law_grown_term) (defScope s__law_grown_term) .none kV22 dc22 pm22 an22 cd22 ct22), sl22⟩) (c22 : PySem.W.codeIn K cd22 "_law_grown_term" = true) (k22 : PySem.W.keepIn K (.ref f22) = true)
    (a23 : PySem.W.nsIn K mainGlobals "_law_is_number" = some (some (.ref f23))) (l23 : K.lookup f23 = some ⟨oc23, od23, .func (PySem.W.fnOf "_law_is_number" "_law_is_number" (defArgs s__law_is_number) (defBody s__law_is_number) (defScope s__law_is_number) .none kV23 dc23 pm23 an23 cd23 ct23), sl23⟩) (c23 : PySem.W.codeIn K cd23 "_law_is_number" = true) (k23 : PySem.W.keepIn K (.ref f23) = true)
    (a24 : PySem.W.nsIn K mainGlobals "_law_word" = some (some (.ref f24))) (l24 : K.lookup f24 = some ⟨oc24, od24, .func (PySem.W.fnOf "_law_word" "_law_word" (defArgs s__law_word) (defBody s__law_word) (defScope s__law_word) .none kV24 dc24 pm24 an24 cd24 ct24), sl24⟩) (c24 : PySem.W.codeIn K cd24 "_law_word" = true) (k24 : PySem.W.keepIn K (.ref f24) = true)
    (a25 : PySem.W.nsIn K mainGlobals "_law_read" = some (some (.ref f25))) (l25 : K.lookup f25 = some ⟨oc25, od25, .func (PySem.W.fnOf "_law_read" "_law_read" (defArgs s__law_read) (defBody s__law_read) (defScope s__law_read) .none kV25 dc25 pm25 an25 cd25 ct25), sl25⟩) (c25 : PySem.W.codeIn K cd25 "_law_read" = true) (k25 : PySem.W.keepIn K (.ref f25) = true)
    (a26 : PySem.W.nsIn K mainGlobals "_law_read_inner" = some (some (.ref f26))) (l26 : K.lookup f26 = some ⟨oc26, od26, .func (PySem.W.fnOf "_law_read_inner" "_law_read_inner" (defArgs s__law_read_inner) (defBody s__law_read_inner) (defScope s__law_read_inner) .none kV26 dc26 pm26 an26 cd26 ct26), sl26⟩) (c26 : PySem.W.codeIn K cd26 "_law_read_inner" = true) (k26 : PySem.W.keepIn K (.ref f26) = true)
    (a27 : PySem.W.nsIn K mainGlobals "_law_bad_term" = some (some (.ref f27))) (l27 : K.lookup f27 = some ⟨oc27, od27, .func (PySem.W.fnOf "_law_bad_term" "_law_bad_term" (defArgs s__law_bad_term) (defBody s__law_bad_term) (defScope s__law_bad_term) .none kV27 dc27 pm27 an27 cd27 ct27), sl27⟩) (c27 : PySem.W.codeIn K cd27 "_law_bad_term" = true) (k27 : PySem.W.keepIn K (.ref f27) = true)
    (a28 : PySem.W.nsIn K mainGlobals "_law_bad_mix" = some (some (.ref f28))) (l28 : K.lookup f28 = some ⟨oc28, od28, .func (PySem.W.fnOf "_law_bad_mix" "_law_bad_mix" (defArgs s__law_bad_mix) (defBody s__law_bad_mix) (defScope s__law_bad_mix) .none kV28 dc28 pm28 an28 cd28 ct28), sl28⟩) (c28 : PySem.W.codeIn K cd28 "_law_bad_mix" = true) (k28 : PySem.W.keepIn K (.ref f28) = true)
    (a29 : PySem.W.nsIn K mainGlobals "_law_bent" = some (some (.ref f29))) (l29 : K.lookup f29 = some ⟨oc29, od29, .func (PySem.W.fnOf "_law_bent" "_law_bent" (defArgs s__law_bent) (defBody s__law_bent) (defScope s__law_bent) .none kV29 dc29 pm29 an29 cd29 ct29), sl29⟩) (c29 : PySem.W.codeIn K cd29 "_law_bent" = true) (k29 : PySem.W.keepIn K (.ref f29) = true)
    (a30 : PySem.W.nsIn K mainGlobals "_law_told" = some (some (.ref f30))) (l30 : K.lookup f30 = some ⟨oc30, od30, .func (PySem.W.fnOf "_law_told" "_law_told" (defArgs s__law_told) (defBody s__law_told) (defScope s__law_told) .none kV30 dc30 pm30 an30 cd30 ct30), sl30⟩) (c30 : PySem.W.codeIn K cd30 "_law_told" = true) (k30 : PySem.W.keepIn K (.ref f30) = true)
    (a31 : PySem.W.nsIn K mainGlobals "law" = some (some (.ref f31))) (l31 : K.lookup f31 = some ⟨oc31, od31, .func (PySem.W.fnOf "law" "law" (defArgs s_law) (defBody s_law) (defScope s_law) .none kV31 dc31 pm31 an31 cd31 ct31), sl31⟩) (c31 : PySem.W.codeIn K cd31 "law" = true) (k31 : PySem.W.keepIn K (.ref f31) = true)
    (a32 : PySem.W.findIn K (.ref CC_Reader) "__init__" = some (some (.ref f32))) (i32 : PySem.W.isFn K (.ref f32) = true) (l32 : K.lookup f32 = some ⟨oc32, od32, .func (PySem.W.fnOf "__init__" "Reader.__init__" (defArgs s_Reader___init__) (defBody s_Reader___init__) (defScope s_Reader___init__) .none kV32 dc32 pm32 an32 cd32 ct32), sl32⟩) (c32 : PySem.W.codeIn K cd32 "Reader.__init__" = true) (k32 : PySem.W.keepIn K (.ref f32) = true)
    (a33 : PySem.W.findIn K (.ref CC_Reader) "peek" = some (some (.ref f33))) (i33 : PySem.W.isFn K (.ref f33) = true) (l33 : K.lookup f33 = some ⟨oc33, od33, .func (PySem.W.fnOf "peek" "Reader.peek" (defArgs s_Reader_peek) (defBody s_Reader_peek) (defScope s_Reader_peek) .none kV33 dc33 pm33 an33 cd33 ct33), sl33⟩) (c33 : PySem.W.codeIn K cd33 "Reader.peek" = true) (k33 : PySem.W.keepIn K (.ref f33) = true)
    (a34 : PySem.W.findIn K (.ref CC_Reader) "expect" = some (some (.ref f34))) (i34 : PySem.W.isFn K (.ref f34) = true) (l34 : K.lookup f34 = some ⟨oc34, od34, .func (PySem.W.fnOf "expect" "Reader.expect" (defArgs s_Reader_expect) (defBody s_Reader_expect) (defScope s_Reader_expect) .none kV34 dc34 pm34 an34 cd34 ct34), sl34⟩) (c34 : PySem.W.codeIn K cd34 "Reader.expect" = true) (k34 : PySem.W.keepIn K (.ref f34) = true)
    (a35 : PySem.W.findIn K (.ref CC_Reader) "count_parts" = some (some (.ref f35))) (i35 : PySem.W.isFn K (.ref f35) = true) (l35 : K.lookup f35 = some ⟨oc35, od35, .func (PySem.W.fnOf "count_parts" "Reader.count_parts" (defArgs s_Reader_count_parts) (defBody s_Reader_count_parts) (defScope s_Reader_count_parts) .none kV35 dc35 pm35 an35 cd35 ct35), sl35⟩) (c35 : PySem.W.codeIn K cd35 "Reader.count_parts" = true) (k35 : PySem.W.keepIn K (.ref f35) = true)
    (a36 : PySem.W.findIn K (.ref CC_Reader) "read_whole_term" = some (some (.ref f36))) (i36 : PySem.W.isFn K (.ref f36) = true) (l36 : K.lookup f36 = some ⟨oc36, od36, .func (PySem.W.fnOf "read_whole_term" "Reader.read_whole_term" (defArgs s_Reader_read_whole_term) (defBody s_Reader_read_whole_term) (defScope s_Reader_read_whole_term) .none kV36 dc36 pm36 an36 cd36 ct36), sl36⟩) (c36 : PySem.W.codeIn K cd36 "Reader.read_whole_term" = true) (k36 : PySem.W.keepIn K (.ref f36) = true)
    (a37 : PySem.W.findIn K (.ref CC_Reader) "read_term" = some (some (.ref f37))) (i37 : PySem.W.isFn K (.ref f37) = true) (l37 : K.lookup f37 = some ⟨oc37, od37, .func (PySem.W.fnOf "read_term" "Reader.read_term" (defArgs s_Reader_read_term) (defBody s_Reader_read_term) (defScope s_Reader_read_term) .none kV37 dc37 pm37 an37 cd37 ct37), sl37⟩) (c37 : PySem.W.codeIn K cd37 "Reader.read_term" = true) (k37 : PySem.W.keepIn K (.ref f37) = true)
    (a38 : PySem.W.findIn K (.ref CC_Reader) "read_step" = some (some (.ref f38))) (i38 : PySem.W.isFn K (.ref f38) = true) (l38 : K.lookup f38 = some ⟨oc38, od38, .func (PySem.W.fnOf "read_step" "Reader.read_step" (defArgs s_Reader_read_step) (defBody s_Reader_read_step) (defScope s_Reader_read_step) .none kV38 dc38 pm38 an38 cd38 ct38), sl38⟩) (c38 : PySem.W.codeIn K cd38 "Reader.read_step" = true) (k38 : PySem.W.keepIn K (.ref f38) = true)
    (a39 : PySem.W.findIn K (.ref CC_Reader) "read_pay" = some (some (.ref f39))) (i39 : PySem.W.isFn K (.ref f39) = true) (l39 : K.lookup f39 = some ⟨oc39, od39, .func (PySem.W.fnOf "read_pay" "Reader.read_pay" (defArgs s_Reader_read_pay) (defBody s_Reader_read_pay) (defScope s_Reader_read_pay) .none kV39 dc39 pm39 an39 cd39 ct39), sl39⟩) (c39 : PySem.W.codeIn K cd39 "Reader.read_pay" = true) (k39 : PySem.W.keepIn K (.ref f39) = true)
    (a40 : PySem.W.findIn K (.ref CC_Reader) "read_weight" = some (some (.ref f40))) (i40 : PySem.W.isFn K (.ref f40) = true) (l40 : K.lookup f40 = some ⟨oc40, od40, .func (PySem.W.fnOf "read_weight" "Reader.read_weight" (defArgs s_Reader_read_weight) (defBody s_Reader_read_weight) (defScope s_Reader_read_weight) .none kV40 dc40 pm40 an40 cd40 ct40), sl40⟩) (c40 : PySem.W.codeIn K cd40 "Reader.read_weight" = true) (k40 : PySem.W.keepIn K (.ref f40) = true)
    (a41 : PySem.W.findIn K (.ref CC_Reader) "read_members" = some (some (.ref f41))) (i41 : PySem.W.isFn K (.ref f41) = true) (l41 : K.lookup f41 = some ⟨oc41, od41, .func (PySem.W.fnOf "read_members" "Reader.read_members" (defArgs s_Reader_read_members) (defBody s_Reader_read_members) (defScope s_Reader_read_members) .none kV41 dc41 pm41 an41 cd41 ct41), sl41⟩) (c41 : PySem.W.codeIn K cd41 "Reader.read_members" = true) (k41 : PySem.W.keepIn K (.ref f41) = true)
    (a42 : PySem.W.findIn K (.ref CC_Reader) "read_mix" = some (some (.ref f42))) (i42 : PySem.W.isFn K (.ref f42) = true) (l42 : K.lookup f42 = some ⟨oc42, od42, .func (PySem.W.fnOf "read_mix" "Reader.read_mix" (defArgs s_Reader_read_mix) (defBody s_Reader_read_mix) (defScope s_Reader_read_mix) .none kV42 dc42 pm42 an42 cd42 ct42), sl42⟩) (c42 : PySem.W.codeIn K cd42 "Reader.read_mix" = true) (k42 : PySem.W.keepIn K (.ref f42) = true)
    (a43 : PySem.W.findIn K (.ref CC_Reader) "finish" = some (some (.ref f43))) (i43 : PySem.W.isFn K (.ref f43) = true) (l43 : K.lookup f43 = some ⟨oc43, od43, .func (PySem.W.fnOf "finish" "Reader.finish" (defArgs s_Reader_finish) (defBody s_Reader_finish) (defScope s_Reader_finish) .none kV43 dc43 pm43 an43 cd43 ct43), sl43⟩) (c43 : PySem.W.codeIn K cd43 "Reader.finish" = true) (k43 : PySem.W.keepIn K (.ref f43) = true)
    (z_abs : PySem.W.nsIn K mainGlobals "abs" = some none)
    (z_all : PySem.W.nsIn K mainGlobals "all" = some none)
    (z_bool : PySem.W.nsIn K mainGlobals "bool" = some none)
    (z_enumerate : PySem.W.nsIn K mainGlobals "enumerate" = some none)
    (z_int : PySem.W.nsIn K mainGlobals "int" = some none)
    (z_isinstance : PySem.W.nsIn K mainGlobals "isinstance" = some none)
    (z_len : PySem.W.nsIn K mainGlobals "len" = some none)
    (z_list : PySem.W.nsIn K mainGlobals "list" = some none)
    (z_max : PySem.W.nsIn K mainGlobals "max" = some none)
    (z_min : PySem.W.nsIn K mainGlobals "min" = some none)
    (z_range : PySem.W.nsIn K mainGlobals "range" = some none)
    (z_str : PySem.W.nsIn K mainGlobals "str" = some none)
    (z_sum : PySem.W.nsIn K mainGlobals "sum" = some none)
    (z_tuple : PySem.W.nsIn K mainGlobals "tuple" = some none)
    (z_gcd : PySem.W.nsIn K mainGlobals "gcd" = some (some (.builtin "math.gcd")))
    (zN : PySem.W.nsIn K mainGlobals "END" = some (some (.ref aN))) (lN : K.lookup aN = some ⟨.type "tuple", ddN, .seq #[.str "end" tN] nN, slN⟩)
    (zMOST_STEPS : PySem.W.nsIn K mainGlobals "MOST_STEPS" = some (some (.int 16 tMOST_STEPS)))
    (zMOST_PARTS : PySem.W.nsIn K mainGlobals "MOST_PARTS" = some (some (.int 48 tMOST_PARTS)))
    (nPL : PA1 ≠ PA0)
    (zMOST_TERMS : PySem.W.nsIn K mainGlobals "MOST_TERMS" = some (some (.int 4 tMOST_TERMS)))
    (zMOST_MIX_PARTS : PySem.W.nsIn K mainGlobals "MOST_MIX_PARTS" = some (some (.int 96 tMOST_MIX_PARTS)))
    (zMOST_FIGURES : PySem.W.nsIn K mainGlobals "MOST_FIGURES" = some (some (.int 12 tMOST_FIGURES)))
    (nf_words : PySem.W.findIn K (.ref CC_Reader) "words" = some none)
    (nf_at : PySem.W.findIn K (.ref CC_Reader) "at" = some none)
    (nf_step_count : PySem.W.findIn K (.ref CC_Reader) "step_count" = some none)
    (nf_term_parts : PySem.W.findIn K (.ref CC_Reader) "term_parts" = some none)
    (nf_all_parts : PySem.W.findIn K (.ref CC_Reader) "all_parts" = some none)
    (zVE : PySem.W.nsIn K mainGlobals "ValueError" = some none) (zv : PySem.W.findCls K (.type "ValueError") (.type "type") "__init__" = some (.val (.builtin "ValueError.__init__"))) (zM_ : PySem.W.nsIn K mainGlobals "MixError" = some (some (.ref CM_))) (iM_ : PySem.W.findCls K (.ref CM_) (.type "type") "__init__" = some (.val (.ref fM_))) (lM_ : K.lookup fM_ = some ⟨ocM_, odM_, .func (PySem.W.fnOf "__init__" "MixError.__init__" (defArgs s_i_MixError) (defBody s_i_MixError) (defScope s_i_MixError) .none kVM_ dcM_ pmM_ anM_ cdM_ ctM_), slM_⟩) (cM_ : PySem.W.codeIn K cdM_ "MixError.__init__" = true) (xM_ : baseB K CM_ fM_ = true)
    (z_BadText : PySem.W.nsIn K mainGlobals "BadText" = some (some (.ref C_BadText))) (i_BadText : PySem.W.findIn K (.ref C_BadText) "__init__" = some (some (.ref f_BadText))) (l_BadText : K.lookup f_BadText = some ⟨oc_BadText, od_BadText, .func (PySem.W.fnOf "__init__" "BadText.__init__" (defArgs s_i_BadText) (defBody s_i_BadText) (defScope s_i_BadText) .none kV_BadText dc_BadText pm_BadText an_BadText cd_BadText ct_BadText), sl_BadText⟩) (c_BadText : PySem.W.codeIn K cd_BadText "BadText.__init__" = true) (k_BadText : PySem.W.keepIn K (.ref f_BadText) = true) (x_BadText : errB K C_BadText CM_ f_BadText "BadText" = true)
    (tA0 : cd3 = .ref cA0) (uA0 : K.lookup cA0 = some ⟨ocA0, ddA0, .fields vsA0, slA0⟩) (vA0 : vsA0[11]? = some (.ref PA0)) (nA0 : K.lookup PA0 = none) (hA0 : CodeK ocA0 vsA0 cA0 PA0)
    (tA1 : cd31 = .ref cA1) (uA1 : K.lookup cA1 = some ⟨ocA1, ddA1, .fields vsA1, slA1⟩) (vA1 : vsA1[11]? = some (.ref PA1)) (nA1 : K.lookup PA1 = none) (hA1 : CodeK ocA1 vsA1 cA1 PA1) :
    ∃ (fd : FuncData) (cs : List (Addr × Addr)), (∀ p ∈ cs, h.get? p.2 = some { cls := .none, data := .fields #[] }) ∧ (∀ p ∈ cs, K.lookup p.2 = none) ∧ (∀ p ∈ cs, PySem.W.CodeHd h p.1 p.2) ∧ (∀ (s : Shared) (u : Value), BindsTo s fd ⟨[u], []⟩ [("_law_script", u)]) ∧
      (∀ (H : Hp) (a : Addr) (ns : List Int), ns.length ≤ 63 → (∀ z ∈ ns, Builtin.Int.intBits z ≤ 1048576) → (∀ p ∈ cs, H p.2 = some (.tbl #[])) → SqL K H a (ns.map V.int) → spLaw K [PA0, PA1] [.ref a] H (fun v _ => v = .bl true) E0) ∧
      ∀ base : Heap, K.In base → base.Ns mainGlobals mg → (∀ p ∈ cs, GxR.TabB base mg p.1 p.2) → FnG l.prog w K mg base 120 fa fd ["_law_script"] (spLaw K [PA0, PA1]) := by
  have e := hfa.symm.trans (PySem.W.mg_of X G a31)
  cases e
  let T : Txt K mg := {
    K_Reader := ⟨CC_Reader, PySem.W.mg_of X G zC_Reader, ⟨pgC_Reader, hdC_Reader, poC_Reader, saC_Reader⟩, mkC_Reader, kpC_Reader⟩,
    d_is_whole := ⟨f1, _, fun_mk (st := s_is_whole) l1 c1 k1, (fun_mk (st := s_is_whole) l1 c1 k1).binds (ps := ["value"]) (fun _ _ _ _ _ _ us hl => match us, hl with | [_], _ => rfl), PySem.W.mg_of X G a1⟩,
    d_is_fraction := ⟨f2, _, fun_mk (st := s_is_fraction) l2 c2 k2, (fun_mk (st := s_is_fraction) l2 c2 k2).binds (ps := ["value"]) (fun _ _ _ _ _ _ us hl => match us, hl with | [_], _ => rfl), PySem.W.mg_of X G a2⟩,
    d_are_figures := ⟨f3, _, fun_mk (st := s_are_figures) l3 c3 k3, (fun_mk (st := s_are_figures) l3 c3 k3).binds (ps := ["word"]) (fun _ _ _ _ _ _ us hl => match us, hl with | [_], _ => rfl), PySem.W.mg_of X G a3⟩,
    d_parse_fraction := ⟨f4, _, fun_mk (st := s_parse_fraction) l4 c4 k4, (fun_mk (st := s_parse_fraction) l4 c4 k4).binds (ps := ["word"]) (fun _ _ _ _ _ _ us hl => match us, hl with | [_], _ => rfl), PySem.W.mg_of X G a4⟩,
    d_parse_term := ⟨f5, _, fun_mk (st := s_parse_term) l5 c5 k5, (fun_mk (st := s_parse_term) l5 c5 k5).binds (ps := ["text"]) (fun _ _ _ _ _ _ us hl => match us, hl with | [_], _ => rfl), PySem.W.mg_of X G a5⟩,
    d_parse_mix := ⟨f6, _, fun_mk (st := s_parse_mix) l6 c6 k6, (fun_mk (st := s_parse_mix) l6 c6 k6).binds (ps := ["text"]) (fun _ _ _ _ _ _ us hl => match us, hl with | [_], _ => rfl), PySem.W.mg_of X G a6⟩,
    d__law_tape := ⟨f7, _, fun_mk (st := s__law_tape) l7 c7 k7, (fun_mk (st := s__law_tape) l7 c7 k7).binds (ps := ["_law_script", "_law_first"]) (fun _ _ _ _ _ _ us hl => match us, hl with | [_, _], _ => rfl), PySem.W.mg_of X G a7⟩,
    d__law_pick := ⟨f8, _, fun_mk (st := s__law_pick) l8 c8 k8, (fun_mk (st := s__law_pick) l8 c8 k8).binds (ps := ["_law_tape_here", "_law_many"]) (fun _ _ _ _ _ _ us hl => match us, hl with | [_, _], _ => rfl), PySem.W.mg_of X G a8⟩,
    d__law_one_of := ⟨f9, _, fun_mk (st := s__law_one_of) l9 c9 k9, (fun_mk (st := s__law_one_of) l9 c9 k9).binds (ps := ["_law_tape_here", "_law_things"]) (fun _ _ _ _ _ _ us hl => match us, hl with | [_, _], _ => rfl), PySem.W.mg_of X G a9⟩,
    d__law_frac := ⟨f10, _, fun_mk (st := s__law_frac) l10 c10 k10, (fun_mk (st := s__law_frac) l10 c10 k10).binds (ps := ["_law_top", "_law_bottom"]) (fun _ _ _ _ _ _ us hl => match us, hl with | [_, _], _ => rfl), PySem.W.mg_of X G a10⟩,
    d__law_drawn_pay := ⟨f11, _, fun_mk (st := s__law_drawn_pay) l11 c11 k11, (fun_mk (st := s__law_drawn_pay) l11 c11 k11).binds (ps := ["_law_tape_here"]) (fun _ _ _ _ _ _ us hl => match us, hl with | [_], _ => rfl), PySem.W.mg_of X G a11⟩,
    d__law_drawn_weight := ⟨f12, _, fun_mk (st := s__law_drawn_weight) l12 c12 k12, (fun_mk (st := s__law_drawn_weight) l12 c12 k12).binds (ps := ["_law_tape_here"]) (fun _ _ _ _ _ _ us hl => match us, hl with | [_], _ => rfl), PySem.W.mg_of X G a12⟩,
    d__law_drawn_term := ⟨f13, _, fun_mk (st := s__law_drawn_term) l13 c13 k13, (fun_mk (st := s__law_drawn_term) l13 c13 k13).binds (ps := ["_law_tape_here", "_law_deep", "_law_room"]) (fun _ _ _ _ _ _ us hl => match us, hl with | [_, _, _], _ => rfl), PySem.W.mg_of X G a13⟩,
    d__law_within := ⟨f14, _, fun_mk (st := s__law_within) l14 c14 k14, (fun_mk (st := s__law_within) l14 c14 k14).binds (ps := ["_law_term"]) (fun _ _ _ _ _ _ us hl => match us, hl with | [_], _ => rfl), PySem.W.mg_of X G a14⟩,
    d__law_counts := ⟨f15, _, fun_mk (st := s__law_counts) l15 c15 k15, (fun_mk (st := s__law_counts) l15 c15 k15).binds (ps := ["_law_term"]) (fun _ _ _ _ _ _ us hl => match us, hl with | [_], _ => rfl), PySem.W.mg_of X G a15⟩,
    d__law_drawn_mix := ⟨f16, _, fun_mk (st := s__law_drawn_mix) l16 c16 k16, (fun_mk (st := s__law_drawn_mix) l16 c16 k16).binds (ps := ["_law_tape_here", "_law_most", "_law_room"]) (fun _ _ _ _ _ _ us hl => match us, hl with | [_, _, _], _ => rfl), PySem.W.mg_of X G a16⟩,
    d__law_long := ⟨f17, _, fun_mk (st := s__law_long) l17 c17 k17, (fun_mk (st := s__law_long) l17 c17 k17).binds (ps := ["_law_many"]) (fun _ _ _ _ _ _ us hl => match us, hl with | [_], _ => rfl), PySem.W.mg_of X G a17⟩,
    d__law_wide := ⟨f18, _, fun_mk (st := s__law_wide) l18 c18 k18, (fun_mk (st := s__law_wide) l18 c18 k18).binds (ps := ["_law_many"]) (fun _ _ _ _ _ _ us hl => match us, hl with | [_], _ => rfl), PySem.W.mg_of X G a18⟩,
    d__law_number := ⟨f19, _, fun_mk (st := s__law_number) l19 c19 k19, (fun_mk (st := s__law_number) l19 c19 k19).binds (ps := ["_law_value"]) (fun _ _ _ _ _ _ us hl => match us, hl with | [_], _ => rfl), PySem.W.mg_of X G a19⟩,
    d__law_words := ⟨f20, _, fun_mk (st := s__law_words) l20 c20 k20, (fun_mk (st := s__law_words) l20 c20 k20).binds (ps := ["_law_term"]) (fun _ _ _ _ _ _ us hl => match us, hl with | [_], _ => rfl), PySem.W.mg_of X G a20⟩,
    d__law_mix_words := ⟨f21, _, fun_mk (st := s__law_mix_words) l21 c21 k21, (fun_mk (st := s__law_mix_words) l21 c21 k21).binds (ps := ["_law_mix"]) (fun _ _ _ _ _ _ us hl => match us, hl with | [_], _ => rfl), PySem.W.mg_of X G a21⟩,
    d__law_grown_term := ⟨f22, _, fun_mk (st := s__law_grown_term) l22 c22 k22, (fun_mk (st := s__law_grown_term) l22 c22 k22).binds (ps := ["_law_tape_here", "_law_deep", "_law_room"]) (fun _ _ _ _ _ _ us hl => match us, hl with | [_, _, _], _ => rfl), PySem.W.mg_of X G a22⟩,
    d__law_is_number := ⟨f23, _, fun_mk (st := s__law_is_number) l23 c23 k23, (fun_mk (st := s__law_is_number) l23 c23 k23).binds (ps := ["_law_word_here", "_law_is_weight"]) (fun _ _ _ _ _ _ us hl => match us, hl with | [_, _], _ => rfl), PySem.W.mg_of X G a23⟩,
    d__law_word := ⟨f24, _, fun_mk (st := s__law_word) l24 c24 k24, (fun_mk (st := s__law_word) l24 c24 k24).binds (ps := ["_law_words_here", "_law_at"]) (fun _ _ _ _ _ _ us hl => match us, hl with | [_, _], _ => rfl), PySem.W.mg_of X G a24⟩,
    d__law_read := ⟨f25, _, fun_mk (st := s__law_read) l25 c25 k25, (fun_mk (st := s__law_read) l25 c25 k25).binds (ps := ["_law_words_here", "_law_at", "_law_room", "_law_owed"]) (fun _ _ _ _ _ _ us hl => match us, hl with | [_, _, _, _], _ => rfl), PySem.W.mg_of X G a25⟩,
    d__law_read_inner := ⟨f26, _, fun_mk (st := s__law_read_inner) l26 c26 k26, (fun_mk (st := s__law_read_inner) l26 c26 k26).binds (ps := ["_law_words_here", "_law_at", "_law_room", "_law_owed", "_law_kind"]) (fun _ _ _ _ _ _ us hl => match us, hl with | [_, _, _, _, _], _ => rfl), PySem.W.mg_of X G a26⟩,
    d__law_bad_term := ⟨f27, _, fun_mk (st := s__law_bad_term) l27 c27 k27, (fun_mk (st := s__law_bad_term) l27 c27 k27).binds (ps := ["_law_words_here"]) (fun _ _ _ _ _ _ us hl => match us, hl with | [_], _ => rfl), PySem.W.mg_of X G a27⟩,
    d__law_bad_mix := ⟨f28, _, fun_mk (st := s__law_bad_mix) l28 c28 k28, (fun_mk (st := s__law_bad_mix) l28 c28 k28).binds (ps := ["_law_words_here"]) (fun _ _ _ _ _ _ us hl => match us, hl with | [_], _ => rfl), PySem.W.mg_of X G a28⟩,
    d__law_bent := ⟨f29, _, fun_mk (st := s__law_bent) l29 c29 k29, (fun_mk (st := s__law_bent) l29 c29 k29).binds (ps := ["_law_tape_here", "_law_words_here"]) (fun _ _ _ _ _ _ us hl => match us, hl with | [_, _], _ => rfl), PySem.W.mg_of X G a29⟩,
    d__law_told := ⟨f30, _, fun_mk (st := s__law_told) l30 c30 k30, (fun_mk (st := s__law_told) l30 c30 k30).binds (ps := ["_law_call"]) (fun _ _ _ _ _ _ us hl => match us, hl with | [_], _ => rfl), PySem.W.mg_of X G a30⟩,
    d_law := ⟨fa, _, fun_mk (st := s_law) l31 c31 k31, (fun_mk (st := s_law) l31 c31 k31).binds (ps := ["_law_script"]) (fun _ _ _ _ _ _ us hl => match us, hl with | [_], _ => rfl), PySem.W.mg_of X G a31⟩,
    d_Reader___init__ := ⟨f32, _, fun_mk (st := s_Reader___init__) l32 c32 k32, (fun_mk (st := s_Reader___init__) l32 c32 k32).binds (ps := ["self", "text"]) (fun _ _ _ _ _ _ us hl => match us, hl with | [_, _], _ => rfl), ⟨a32, i32, k32⟩⟩,
    d_Reader_peek := ⟨f33, _, fun_mk (st := s_Reader_peek) l33 c33 k33, (fun_mk (st := s_Reader_peek) l33 c33 k33).binds (ps := ["self"]) (fun _ _ _ _ _ _ us hl => match us, hl with | [_], _ => rfl), ⟨a33, i33, k33⟩⟩,
    d_Reader_expect := ⟨f34, _, fun_mk (st := s_Reader_expect) l34 c34 k34, (fun_mk (st := s_Reader_expect) l34 c34 k34).binds (ps := ["self", "word"]) (fun _ _ _ _ _ _ us hl => match us, hl with | [_, _], _ => rfl), ⟨a34, i34, k34⟩⟩,
    d_Reader_count_parts := ⟨f35, _, fun_mk (st := s_Reader_count_parts) l35 c35 k35, (fun_mk (st := s_Reader_count_parts) l35 c35 k35).binds (ps := ["self", "more"]) (fun _ _ _ _ _ _ us hl => match us, hl with | [_, _], _ => rfl), ⟨a35, i35, k35⟩⟩,
    d_Reader_read_whole_term := ⟨f36, _, fun_mk (st := s_Reader_read_whole_term) l36 c36 k36, (fun_mk (st := s_Reader_read_whole_term) l36 c36 k36).binds (ps := ["self"]) (fun _ _ _ _ _ _ us hl => match us, hl with | [_], _ => rfl), ⟨a36, i36, k36⟩⟩,
    d_Reader_read_term := ⟨f37, _, fun_mk (st := s_Reader_read_term) l37 c37 k37, (fun_mk (st := s_Reader_read_term) l37 c37 k37).binds (ps := ["self"]) (fun _ _ _ _ _ _ us hl => match us, hl with | [_], _ => rfl), ⟨a37, i37, k37⟩⟩,
    d_Reader_read_step := ⟨f38, _, fun_mk (st := s_Reader_read_step) l38 c38 k38, (fun_mk (st := s_Reader_read_step) l38 c38 k38).binds (ps := ["self"]) (fun _ _ _ _ _ _ us hl => match us, hl with | [_], _ => rfl), ⟨a38, i38, k38⟩⟩,
    d_Reader_read_pay := ⟨f39, _, fun_mk (st := s_Reader_read_pay) l39 c39 k39, (fun_mk (st := s_Reader_read_pay) l39 c39 k39).binds (ps := ["self"]) (fun _ _ _ _ _ _ us hl => match us, hl with | [_], _ => rfl), ⟨a39, i39, k39⟩⟩,
    d_Reader_read_weight := ⟨f40, _, fun_mk (st := s_Reader_read_weight) l40 c40 k40, (fun_mk (st := s_Reader_read_weight) l40 c40 k40).binds (ps := ["self"]) (fun _ _ _ _ _ _ us hl => match us, hl with | [_], _ => rfl), ⟨a40, i40, k40⟩⟩,
    d_Reader_read_members := ⟨f41, _, fun_mk (st := s_Reader_read_members) l41 c41 k41, (fun_mk (st := s_Reader_read_members) l41 c41 k41).binds (ps := ["self"]) (fun _ _ _ _ _ _ us hl => match us, hl with | [_], _ => rfl), ⟨a41, i41, k41⟩⟩,
    d_Reader_read_mix := ⟨f42, _, fun_mk (st := s_Reader_read_mix) l42 c42 k42, (fun_mk (st := s_Reader_read_mix) l42 c42 k42).binds (ps := ["self"]) (fun _ _ _ _ _ _ us hl => match us, hl with | [_], _ => rfl), ⟨a42, i42, k42⟩⟩,
    d_Reader_finish := ⟨f43, _, fun_mk (st := s_Reader_finish) l43 c43 k43, (fun_mk (st := s_Reader_finish) l43 c43 k43).binds (ps := ["self"]) (fun _ _ _ _ _ _ us hl => match us, hl with | [_], _ => rfl), ⟨a43, i43, k43⟩⟩,
    n_abs := PySem.W.mg_none_of X G z_abs,
    n_all := PySem.W.mg_none_of X G z_all,
    n_bool := PySem.W.mg_none_of X G z_bool,
    n_enumerate := PySem.W.mg_none_of X G z_enumerate,
    n_int := PySem.W.mg_none_of X G z_int,
    n_isinstance := PySem.W.mg_none_of X G z_isinstance,
    n_len := PySem.W.mg_none_of X G z_len,
    n_list := PySem.W.mg_none_of X G z_list,
    n_max := PySem.W.mg_none_of X G z_max,
    n_min := PySem.W.mg_none_of X G z_min,
    n_range := PySem.W.mg_none_of X G z_range,
    n_str := PySem.W.mg_none_of X G z_str,
    n_sum := PySem.W.mg_none_of X G z_sum,
    n_tuple := PySem.W.mg_none_of X G z_tuple,
    n_gcd := PySem.W.mg_of X G z_gcd,
    a_END := aN, c_END := PySem.W.mg_of X G zN, k_END := ⟨_, _, _, lN, rfl, rfl, (by show 1 ≤ sizeLine; decide), .cons ⟨_, rfl⟩ .nil⟩,
    t_MOST_STEPS := tMOST_STEPS, c_MOST_STEPS := PySem.W.mg_of X G zMOST_STEPS,
    t_MOST_PARTS := tMOST_PARTS, c_MOST_PARTS := PySem.W.mg_of X G zMOST_PARTS,
    ne_tabs := nPL,
    t_MOST_TERMS := tMOST_TERMS, c_MOST_TERMS := PySem.W.mg_of X G zMOST_TERMS,
    t_MOST_MIX_PARTS := tMOST_MIX_PARTS, c_MOST_MIX_PARTS := PySem.W.mg_of X G zMOST_MIX_PARTS,
    t_MOST_FIGURES := tMOST_FIGURES, c_MOST_FIGURES := PySem.W.mg_of X G zMOST_FIGURES,
    f_words := nf_words,
    f_at := nf_at,
    f_step_count := nf_step_count,
    f_term_parts := nf_term_parts,
    f_all_parts := nf_all_parts,
    n_ValueError := PySem.W.mg_none_of X G zVE, v_VE := zv, M := { C := CM_, f := fM_, fd := _, g := PySem.W.mg_of X G zM_, F := fun_mk (st := s_i_MixError) lM_ cM_ (base_ok xM_).2.2, b := (fun_mk (st := s_i_MixError) lM_ cM_ (base_ok xM_).2.2).binds (ps := ["self", "value"]) (fun _ _ _ _ _ _ us hl => match us, hl with | [_, _], _ => rfl), rd := (base_ok xM_).1, ga := (base_ok xM_).2.1, fi := iM_, kp := (base_ok xM_).2.2 },
    E_BadText := { C := C_BadText, f := f_BadText, fd := _, g := PySem.W.mg_of X G z_BadText, F := fun_mk (st := s_i_BadText) l_BadText c_BadText k_BadText, b := (fun_mk (st := s_i_BadText) l_BadText c_BadText k_BadText).binds (ps := ["self", "value"]) (fun _ _ _ _ _ _ us hl => match us, hl with | [_, _], _ => rfl), x := err_ok x_BadText },
    c_are_figures := cA0, P_are_figures := PA0, h_are_figures := tA0,
    c_law := cA1, P_law := PA1, h_law := tA1 }
  refine ⟨PySem.W.fnOf "law" "law" (defArgs s_law) (defBody s_law) (defScope s_law) .none kV31 dc31 pm31 an31 cd31 ct31, [(cA0, PA0), (cA1, PA1)], ?_, ?_, ?_, fun s v => .of_eq rfl, ?_, fun base _ _ hb => ok_law T (hb (cA0, PA0) (by simp)) (hb (cA1, PA1) (by simp))⟩
  · intro p hp
    simp only [List.mem_cons, List.not_mem_nil, or_false] at hp
    rcases hp with rfl | rfl
    · exact hE "are_figures" (by simp) f3 cA0 PA0 _ _ _ _ _ _ (PySem.W.mg_of X G a3) l3 rfl tA0 uA0 vA0
    · exact hE "law" (by simp) fa cA1 PA1 _ _ _ _ _ _ (PySem.W.mg_of X G a31) l31 rfl tA1 uA1 vA1
  · intro p hp
    simp only [List.mem_cons, List.not_mem_nil, or_false] at hp
    rcases hp with rfl | rfl
    · exact nA0
    · exact nA1
  · intro p hp
    simp only [List.mem_cons, List.not_mem_nil, or_false] at hp
    rcases hp with rfl | rfl
    · (obtain ⟨file, tf, flags, tg, inF, text, tt, h1, h2, h3, h4, h5, h6, h7⟩ := hA0; exact ⟨_, vsA0, file, tf, flags, tg, inF, text, tt, X _ _ uA0, h1, rfl, vA0, h2, h3, h4, h5, h6, h7⟩)
    · (obtain ⟨file, tf, flags, tg, inF, text, tt, h1, h2, h3, h4, h5, h6, h7⟩ := hA1; exact ⟨_, vsA1, file, tf, flags, tg, inF, text, tt, X _ _ uA1, h1, rfl, vA1, h2, h3, h4, h5, h6, h7⟩)
  · intro H a ns hl hB hT hS
    refine ⟨a, ns, rfl, hS, hl, hB, fun t ht => ?_, fun _ => rfl⟩
    simp only [List.mem_cons, List.not_mem_nil, or_false] at ht
    rcases ht with ht | ht
    · rw [ht]; exact hT (cA0, PA0) (by simp)
    · rw [ht]; exact hT (cA1, PA1) (by simp)
end Jf
open PySem PySem.W PyProof.Rows
set_option maxRecDepth 100000 in
set_option maxHeartbeats 0 in
theorem PySem.Challenge.cw_onenumber_k16_texts_of_none_holds : PySem.Challenge.rw_onenumber_k16_texts_of_none.Holds := by
  w_on; o_law; k_head; (case hw => w_witness2)
  k_fill
  refine' Jf.walk_ofGLB (l := PySem.Challenge.rw_onenumber_k16_texts_of_none) (n := 63) (k := 120) (x := "_law_script") (ys := ["are_figures", "law"]) (sp := Jf.spLaw) (PA := [_, _]) rfl (by decide) rfl ⟨rfl, by decide, by decide⟩ (by decide) (fun w h Y => PySem.W.km_in_of Y) ?F
  case F =>
    intro w mg fa h KX G hmg hE
    refine' Jf.all_mk KX G hmg hE ?zC_Reader ?pgC_Reader ?hdC_Reader ?poC_Reader ?saC_Reader ?mkC_Reader ?kpC_Reader ?a1 ?l1 ?c1 ?k1 ?a2 ?l2 ?c2 ?k2 ?a3 ?l3 ?c3 ?k3 ?a4 ?l4 ?c4 ?k4 ?a5 ?l5 ?c5 ?k5 ?a6 ?l6 ?c6 ?k6 ?a7 ?l7 ?c7 ?k7 ?a8 ?l8 ?c8 ?k8 ?a9 ?l9 ?c9 ?k9 ?a10 ?l10 ?c10 ?k10 ?a11 ?l11 ?c11 ?k11 ?a12 ?l12 ?c12 ?k12 ?a13 ?l13 ?c13 ?k13 ?a14 ?l14 ?c14 ?k14 ?a15 ?l15 ?c15 ?k15 ?a16 ?l16 ?c16 ?k16 ?a17 ?l17 ?c17 ?k17 ?a18 ?l18 ?c18 ?k18 ?a19 ?l19 ?c19 ?k19 ?a20 ?l20 ?c20 ?k20 ?a21 ?l21 ?c21 ?k21 ?a22 ?l22 ?c22 ?k22 ?a23 ?l23 ?c23 ?k23 ?a24 ?l24 ?c24 ?k24 ?a25 ?l25 ?c25 ?k25 ?a26 ?l26 ?c26 ?k26 ?a27 ?l27 ?c27 ?k27 ?a28 ?l28 ?c28 ?k28 ?a29 ?l29 ?c29 ?k29 ?a30 ?l30 ?c30 ?k30 ?a31 ?l31 ?c31 ?k31 ?a32 ?i32 ?l32 ?c32 ?k32 ?a33 ?i33 ?l33 ?c33 ?k33 ?a34 ?i34 ?l34 ?c34 ?k34 ?a35 ?i35 ?l35 ?c35 ?k35 ?a36 ?i36 ?l36 ?c36 ?k36 ?a37 ?i37 ?l37 ?c37 ?k37 ?a38 ?i38 ?l38 ?c38 ?k38 ?a39 ?i39 ?l39 ?c39 ?k39 ?a40 ?i40 ?l40 ?c40 ?k40 ?a41 ?i41 ?l41 ?c41 ?k41 ?a42 ?i42 ?l42 ?c42 ?k42 ?a43 ?i43 ?l43 ?c43 ?k43 ?z_abs ?z_all ?z_bool ?z_enumerate ?z_int ?z_isinstance ?z_len ?z_list ?z_max ?z_min ?z_range ?z_str ?z_sum ?z_tuple ?z_gcd ?zN ?lN ?zMOST_STEPS ?zMOST_PARTS ?nPL ?zMOST_TERMS ?zMOST_MIX_PARTS ?zMOST_FIGURES ?nf_words ?nf_at ?nf_step_count ?nf_term_parts ?nf_all_parts ?zVE ?zv ?zM_ ?iM_ ?lM_ ?cM_ ?xM_ ?z_BadText ?i_BadText ?l_BadText ?c_BadText ?k_BadText ?x_BadText ?tA0 ?uA0 ?vA0 ?nA0 ?hA0 ?tA1 ?uA1 ?vA1 ?nA1 ?hA1
    (case zC_Reader => k_is)
    (case pgC_Reader => k_is)
    (case hdC_Reader => k_is)
    (case poC_Reader => k_is)
    (case saC_Reader => k_is)
    (case mkC_Reader => k_is)
    (case kpC_Reader => k_is)
    (case a1 => k_is)
    (case l1 => k_is)
    (case c1 => k_is)
    (case k1 => k_is)
    (case a2 => k_is)
    (case l2 => k_is)
    (case c2 => k_is)
    (case k2 => k_is)
    (case a3 => k_is)
    (case l3 => k_is)
    (case c3 => k_is)
    (case k3 => k_is)
    (case a4 => k_is)
    (case l4 => k_is)
    (case c4 => k_is)
    (case k4 => k_is)
    (case a5 => k_is)
    (case l5 => k_is)
    (case c5 => k_is)
    (case k5 => k_is)
    (case a6 => k_is)
    (case l6 => k_is)
    (case c6 => k_is)
    (case k6 => k_is)
    (case a7 => k_is)
    (case l7 => k_is)
    (case c7 => k_is)
    (case k7 => k_is)
    (case a8 => k_is)
    (case l8 => k_is)
    (case c8 => k_is)
    (case k8 => k_is)
    (case a9 => k_is)
    (case l9 => k_is)
    (case c9 => k_is)
    (case k9 => k_is)
    (case a10 => k_is)
    (case l10 => k_is)
    (case c10 => k_is)
    (case k10 => k_is)
    (case a11 => k_is)
    (case l11 => k_is)
    (case c11 => k_is)
    (case k11 => k_is)
    (case a12 => k_is)
    (case l12 => k_is)
    (case c12 => k_is)
    (case k12 => k_is)
    (case a13 => k_is)
    (case l13 => k_is)
    (case c13 => k_is)
    (case k13 => k_is)
    (case a14 => k_is)
    (case l14 => k_is)
    (case c14 => k_is)
    (case k14 => k_is)
    (case a15 => k_is)
    (case l15 => k_is)
    (case c15 => k_is)
    (case k15 => k_is)
    (case a16 => k_is)
    (case l16 => k_is)
    (case c16 => k_is)
    (case k16 => k_is)
    (case a17 => k_is)
    (case l17 => k_is)
    (case c17 => k_is)
    (case k17 => k_is)
    (case a18 => k_is)
    (case l18 => k_is)
    (case c18 => k_is)
    (case k18 => k_is)
    (case a19 => k_is)
    (case l19 => k_is)
    (case c19 => k_is)
    (case k19 => k_is)
    (case a20 => k_is)
    (case l20 => k_is)
    (case c20 => k_is)
    (case k20 => k_is)
    (case a21 => k_is)
    (case l21 => k_is)
    (case c21 => k_is)
    (case k21 => k_is)
    (case a22 => k_is)
    (case l22 => k_is)
    (case c22 => k_is)
    (case k22 => k_is)
    (case a23 => k_is)
    (case l23 => k_is)
    (case c23 => k_is)
    (case k23 => k_is)
    (case a24 => k_is)
    (case l24 => k_is)
    (case c24 => k_is)
    (case k24 => k_is)
    (case a25 => k_is)
    (case l25 => k_is)
    (case c25 => k_is)
    (case k25 => k_is)
    (case a26 => k_is)
    (case l26 => k_is)
    (case c26 => k_is)
    (case k26 => k_is)
    (case a27 => k_is)
    (case l27 => k_is)
    (case c27 => k_is)
    (case k27 => k_is)
    (case a28 => k_is)
    (case l28 => k_is)
    (case c28 => k_is)
    (case k28 => k_is)
    (case a29 => k_is)
    (case l29 => k_is)
    (case c29 => k_is)
    (case k29 => k_is)
    (case a30 => k_is)
    (case l30 => k_is)
    (case c30 => k_is)
    (case k30 => k_is)
    (case a31 => k_is)
    (case l31 => k_is)
    (case c31 => k_is)
    (case k31 => k_is)
    (case a32 => k_is)
    (case i32 => k_is)
    (case l32 => k_is)
    (case c32 => k_is)
    (case k32 => k_is)
    (case a33 => k_is)
    (case i33 => k_is)
    (case l33 => k_is)
    (case c33 => k_is)
    (case k33 => k_is)
    (case a34 => k_is)
    (case i34 => k_is)
    (case l34 => k_is)
    (case c34 => k_is)
    (case k34 => k_is)
    (case a35 => k_is)
    (case i35 => k_is)
    (case l35 => k_is)
    (case c35 => k_is)
    (case k35 => k_is)
    (case a36 => k_is)
    (case i36 => k_is)
    (case l36 => k_is)
    (case c36 => k_is)
    (case k36 => k_is)
    (case a37 => k_is)
    (case i37 => k_is)
    (case l37 => k_is)
    (case c37 => k_is)
    (case k37 => k_is)
    (case a38 => k_is)
    (case i38 => k_is)
    (case l38 => k_is)
    (case c38 => k_is)
    (case k38 => k_is)
    (case a39 => k_is)
    (case i39 => k_is)
    (case l39 => k_is)
    (case c39 => k_is)
    (case k39 => k_is)
    (case a40 => k_is)
    (case i40 => k_is)
    (case l40 => k_is)
    (case c40 => k_is)
    (case k40 => k_is)
    (case a41 => k_is)
    (case i41 => k_is)
    (case l41 => k_is)
    (case c41 => k_is)
    (case k41 => k_is)
    (case a42 => k_is)
    (case i42 => k_is)
    (case l42 => k_is)
    (case c42 => k_is)
    (case k42 => k_is)
    (case a43 => k_is)
    (case i43 => k_is)
    (case l43 => k_is)
    (case c43 => k_is)
    (case k43 => k_is)
    (case z_abs => k_is)
    (case z_all => k_is)
    (case z_bool => k_is)
    (case z_enumerate => k_is)
    (case z_int => k_is)
    (case z_isinstance => k_is)
    (case z_len => k_is)
    (case z_list => k_is)
    (case z_max => k_is)
    (case z_min => k_is)
    (case z_range => k_is)
    (case z_str => k_is)
    (case z_sum => k_is)
    (case z_tuple => k_is)
    (case z_gcd => k_is)
    (case zN => k_is)
    (case lN => k_is)
    (case zMOST_STEPS => k_is)
    (case zMOST_PARTS => k_is)
    (case zMOST_TERMS => k_is)
    (case zMOST_MIX_PARTS => k_is)
    (case zMOST_FIGURES => k_is)
    (case nf_words => k_is)
    (case nf_at => k_is)
    (case nf_step_count => k_is)
    (case nf_term_parts => k_is)
    (case nf_all_parts => k_is)
    (case zVE => k_is)
    (case zv => k_is)
    (case zM_ => k_is)
    (case iM_ => k_is)
    (case lM_ => k_is)
    (case cM_ => k_is)
    (case xM_ => kernel_rfl)
    (case z_BadText => k_is)
    (case i_BadText => k_is)
    (case l_BadText => k_is)
    (case c_BadText => k_is)
    (case k_BadText => k_is)
    (case x_BadText => kernel_rfl)
    (case tA0 => rfl)
    (case uA0 => k_is)
    (case vA0 => rfl)
    (case nA0 => rfl)
    (case hA0 => exact ⟨_, _, _, _, _, _, _, rfl, rfl, rfl, rfl, rfl, rfl, by decide⟩)
    (case tA1 => rfl)
    (case uA1 => k_is)
    (case vA1 => rfl)
    (case nA1 => rfl)
    (case hA1 => exact ⟨_, _, _, _, _, _, _, rfl, rfl, rfl, rfl, rfl, rfl, by decide⟩)
    (case nPL => decide)
