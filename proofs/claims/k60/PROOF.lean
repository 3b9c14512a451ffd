import PyProof.Rows.All
import HandS.Zip
import Wide.All
import OpenK.AllK
import Wide.FinOn
import HandS.ForMost
import HandS.Evl
import HandS.Gcd
import HandS.Wide
import HandS.Flow
import HandS.NoneIn
import HandS.IsInst
import HandS.Exc
import HandS.TryOnly
import HandS.ExcOwn
import HandS.WordsExc
import HandS.ExcInit
import HandS.ExcField
import HandS.ExcIs
import HandS.SetFor
import HandS.TupLe
import HandS.TryMany
import HandS.TupMul
import HandS.TupAny
import HandS.Style
import KE.KExcIs
import PyProof.ReprRoads
import HandS.AnyAll
import PyProof.WalksPairs
import PyProof.GenCompT
import PyProof.SumAny
import HandS.GenList
import KE.KTypeName
import PyProof.ListCopy
import KE.KRevSl
import HandS.Walk
import HandS.Rev
import HandS.RevRange
import HandS.Conv
import HandS.WideBits
import HandS.Small
import HandS.Deep
import KE.BitLaws
import PyProof.EnumMake
import PyProof.TupleIter
import KE.GoesEnumKw
import HandS.SortKw
import HandS.SortOrd
import HandS.More
import HandS.DictTup
import HandS.SortInts
import KE.KDictDisplayH
import KE.SortCalls
import HandS.Dict
import KE.KeyNested
import PySem.Challenge.RW_onenumber_k60_reserves_of_boxes
set_option Elab.async false
set_option linter.all false
/-! fractions as core rationals -/
namespace Jf
theorem gcd_pos {n d : Int} (hd : d ≠ 0) : 0 < Nat.gcd n.natAbs d.natAbs := Nat.gcd_pos_of_pos_right _ (by omega)
theorem low_split (n d : Int) (hd : d ≠ 0) : ∃ (g : Nat) (k m : Int), g = Nat.gcd n.natAbs d.natAbs ∧ 0 < g ∧ n = (g : Int) * k ∧ d = (g : Int) * m ∧ (Rat.divInt n d).num = d.sign * k ∧ ((Rat.divInt n d).den : Int) = d.sign * m := by
  have h1 : ((Nat.gcd n.natAbs d.natAbs : Nat) : Int) ∣ n := Int.ofNat_dvd_left.mpr (Nat.gcd_dvd_left _ _)
  have h2 : ((Nat.gcd n.natAbs d.natAbs : Nat) : Int) ∣ d := Int.ofNat_dvd_left.mpr (Nat.gcd_dvd_right _ _)
  obtain ⟨k, hk⟩ := h1
  obtain ⟨m, hm⟩ := h2
  have hp := gcd_pos (n := n) hd
  refine ⟨_, k, m, rfl, hp, hk, hm, ?_, ?_⟩
  · have hg : (d.gcd n : Nat) = Nat.gcd n.natAbs d.natAbs := by rw [Int.gcd_comm]; rfl
    rw [Rat.num_divInt, hg]
    generalize hG : Nat.gcd n.natAbs d.natAbs = G at *
    have hG0 : (G : Int) ≠ 0 := by omega
    rw [hk, ← Int.mul_assoc, Int.mul_comm d.sign (G : Int), Int.mul_assoc, Int.mul_ediv_cancel_left _ hG0]
  · have hg : (d.gcd n : Nat) = Nat.gcd n.natAbs d.natAbs := by rw [Int.gcd_comm]; rfl
    rw [Rat.den_divInt, if_neg hd, hg]
    generalize hG : Nat.gcd n.natAbs d.natAbs = G at *
    have hG0 : (G : Int) ≠ 0 := by omega
    have e : d.natAbs = G * m.natAbs := by rw [hm, Int.natAbs_mul]; rfl
    rw [e, Nat.mul_div_cancel_left _ hp]
    have hs : d.sign = m.sign := by rw [hm, Int.sign_mul, Int.sign_natCast_of_ne_zero (by omega), Int.one_mul]
    rw [hs, Int.sign_mul_self]
/-- the program's lowest -/
theorem lowest_eq (n d : Int) (hd : d ≠ 0) :
    n.fdiv (if d < 0 then -((Nat.gcd n.natAbs d.natAbs : Nat) : Int) else ((Nat.gcd n.natAbs d.natAbs : Nat) : Int)) = (Rat.divInt n d).num ∧
    d.fdiv (if d < 0 then -((Nat.gcd n.natAbs d.natAbs : Nat) : Int) else ((Nat.gcd n.natAbs d.natAbs : Nat) : Int)) = ((Rat.divInt n d).den : Int) := by
  obtain ⟨g, k, m, hg, hp, hn, hm, e1, e2⟩ := low_split n d hd
  rw [← hg, e1, e2]
  have hg0 : (g : Int) ≠ 0 := by omega
  by_cases h : d < 0
  · rw [if_pos h, Int.sign_eq_neg_one_of_neg h]
    have hn' : n = (-(g : Int)) * (-k) := by rw [hn]; grind
    have hm' : d = (-(g : Int)) * (-m) := by rw [hm]; grind
    have hg1 : (-(g : Int)) ≠ 0 := by omega
    constructor
    · rw [hn', Int.mul_fdiv_cancel_left _ hg1]; omega
    · rw [hm', Int.mul_fdiv_cancel_left _ hg1]; omega
  · rw [if_neg h, Int.sign_eq_one_of_pos (by omega)]
    constructor
    · rw [hn, Int.mul_fdiv_cancel_left _ hg0]; omega
    · rw [hm, Int.mul_fdiv_cancel_left _ hg0]; omega
/-- the law's low -/
theorem low_eq (n d : Int) (hd : d ≠ 0) (s : Int) (hs : s = if d < 0 then -1 else 1) :
    (s * n) / ((Nat.gcd n.natAbs d.natAbs : Nat) : Int) = (Rat.divInt n d).num ∧ (s * d) / ((Nat.gcd n.natAbs d.natAbs : Nat) : Int) = ((Rat.divInt n d).den : Int) := by
  obtain ⟨g, k, m, hg, hp, hn, hm, e1, e2⟩ := low_split n d hd
  rw [← hg, e1, e2]
  have hg0 : (g : Int) ≠ 0 := by omega
  have hs' : s = d.sign := by
    by_cases h : d < 0
    · rw [hs, if_pos h, Int.sign_eq_neg_one_of_neg h]
    · rw [hs, if_neg h, Int.sign_eq_one_of_pos (by omega)]
  rw [hs']
  constructor
  · rw [show d.sign * n = (g : Int) * (d.sign * k) by rw [hn]; grind, Int.mul_ediv_cancel_left _ hg0]
  · rw [show d.sign * d = (g : Int) * (d.sign * m) by
      generalize d.sign = z
      rw [hm]; grind, Int.mul_ediv_cancel_left _ hg0]
theorem num_le (n d : Int) (hd : d ≠ 0) : (Rat.divInt n d).num.natAbs ≤ n.natAbs := by
  obtain ⟨g, k, m, hg, hp, hn, hm, e1, e2⟩ := low_split n d hd
  have hs : d.sign.natAbs = 1 := by rw [Int.natAbs_sign, if_neg hd]
  rw [e1, Int.natAbs_mul, hs, hn, Int.natAbs_mul, Nat.one_mul]
  exact Nat.le_mul_of_pos_left _ (by omega)
theorem den_le (n d : Int) (hd : d ≠ 0) : (Rat.divInt n d).den ≤ d.natAbs := by
  obtain ⟨g, k, m, hg, hp, hn, hm, e1, e2⟩ := low_split n d hd
  have hs : d.sign.natAbs = 1 := by rw [Int.natAbs_sign, if_neg hd]
  have e3 : (Rat.divInt n d).den = m.natAbs := by
    have := congrArg Int.natAbs e2
    rw [Int.natAbs_mul, hs, Nat.one_mul] at this
    simpa using this
  rw [e3]
  have : d.natAbs = g * m.natAbs := by rw [hm, Int.natAbs_mul]; rfl
  rw [this]
  exact Nat.le_mul_of_pos_left _ (by omega)
theorem den_pos (q : Rat) : (0 : Int) < (q.den : Int) := by have := q.den_pos; omega
theorem den_ne (q : Rat) : (q.den : Int) ≠ 0 := by have := q.den_pos; omega
theorem add_eq (q r : Rat) : Rat.divInt (q.num * r.den + r.num * q.den) (q.den * r.den) = q + r := by
  rw [← Rat.divInt_add_divInt _ _ (den_ne q) (den_ne r), Rat.num_divInt_den, Rat.num_divInt_den]
theorem sub_eq (q r : Rat) : Rat.divInt (q.num * r.den - r.num * q.den) (q.den * r.den) = q - r := by
  rw [← Rat.divInt_sub_divInt _ _ (den_ne q) (den_ne r), Rat.num_divInt_den, Rat.num_divInt_den]
theorem mul_eq (q r : Rat) : Rat.divInt (q.num * r.num) (q.den * r.den) = q * r := by
  rw [← Rat.divInt_mul_divInt, Rat.num_divInt_den, Rat.num_divInt_den]
theorem div_eq (q r : Rat) : Rat.divInt (q.num * r.den) (q.den * r.num) = q / r := by
  rw [Rat.div_def, Rat.inv_def, ← Rat.divInt_mul_divInt, Rat.num_divInt_den]
theorem num_ne {r : Rat} (h : r ≠ 0) : r.num ≠ 0 := fun e => h (Rat.num_eq_zero.mp e)
theorem red (q : Rat) : Nat.gcd q.num.natAbs (q.den : Int).natAbs = 1 := by
  have := q.reduced
  simpa [Nat.Coprime] using this
/-- compare -/
def cmp (q r : Rat) : Int := if q = r then 0 else if r < q then 1 else -1
theorem cmp_eq (q r : Rat) : (if (q - r).num = 0 then (0 : Int) else if 0 < (q - r).num then 1 else -1) = cmp q r := by
  unfold cmp
  have e : (q - r).num = 0 ↔ q = r := by
    rw [Rat.num_eq_zero]
    constructor <;> intro h <;> grind
  by_cases h : q = r
  · rw [if_pos (e.mpr h), if_pos h]
  · rw [if_neg (fun z => h (e.mp z)), if_neg h]
    have e2 : 0 < (q - r).num ↔ r < q := by
      have h1 : (0 : Int) ≤ (q - r).num ↔ 0 ≤ q - r := Rat.num_nonneg
      have h2 : (q - r).num ≠ 0 := fun z => h (e.mp z)
      constructor
      · intro z
        have := h1.mp (by omega)
        grind
      · intro z
        have : 0 ≤ q - r := by grind
        have := h1.mpr this
        omega
    by_cases z : r < q
    · rw [if_pos z, if_pos (e2.mpr z)]
    · rw [if_neg z, if_neg (fun y => z (e2.mp y))]
/-! bounds by powers of two -/
theorem lt_pow_mul {a b m n : Nat} (ha : a < 2 ^ m) (hb : b < 2 ^ n) : a * b < 2 ^ (m + n) := by
  rw [Nat.pow_add]
  exact Nat.mul_lt_mul'' ha hb
theorem lt_pow_add {a b n : Nat} (ha : a < 2 ^ n) (hb : b < 2 ^ n) : a + b < 2 ^ (n + 1) := by
  rw [Nat.pow_succ]; omega
theorem lt_pow_mono {a m n : Nat} (h : m ≤ n) (ha : a < 2 ^ m) : a < 2 ^ n := Nat.lt_of_lt_of_le ha (Nat.pow_le_pow_right (by decide) h)
theorem abs_add_le (a b : Int) : (a + b).natAbs ≤ a.natAbs + b.natAbs := by omega
theorem abs_sub_le (a b : Int) : (a - b).natAbs ≤ a.natAbs + b.natAbs := by omega
/-- a fraction within b bits -/
def Bd (b : Nat) (q : Rat) : Prop := q.num.natAbs < 2 ^ b ∧ q.den < 2 ^ b
theorem Bd.mono {b c : Nat} {q : Rat} (h : b ≤ c) (x : Bd b q) : Bd c q := ⟨lt_pow_mono h x.1, lt_pow_mono h x.2⟩
theorem bd_divInt {n d : Int} {b : Nat} (hd : d ≠ 0) (hn : n.natAbs < 2 ^ b) (hb : d.natAbs < 2 ^ b) : Bd b (Rat.divInt n d) :=
  ⟨Nat.lt_of_le_of_lt (num_le n d hd) hn, Nat.lt_of_le_of_lt (den_le n d hd) hb⟩
theorem bn_mul {i j : Int} {a b : Nat} (ha : i.natAbs < 2 ^ a) (hb : j.natAbs < 2 ^ b) : (i * j).natAbs < 2 ^ (a + b) := by
  rw [Int.natAbs_mul]
  exact lt_pow_mul ha hb
theorem bn_add {i j : Int} {a : Nat} (ha : i.natAbs < 2 ^ a) (hb : j.natAbs < 2 ^ a) : (i + j).natAbs < 2 ^ (a + 1) :=
  Nat.lt_of_le_of_lt (abs_add_le i j) (lt_pow_add ha hb)
theorem bn_sub {i j : Int} {a : Nat} (ha : i.natAbs < 2 ^ a) (hb : j.natAbs < 2 ^ a) : (i - j).natAbs < 2 ^ (a + 1) :=
  Nat.lt_of_le_of_lt (abs_sub_le i j) (lt_pow_add ha hb)
theorem bd_den {q : Rat} {b : Nat} (x : Bd b q) : (q.den : Int).natAbs < 2 ^ b := by
  have := x.2
  simpa using this
/-! Euclid's steps end -/
def euc : Nat → Nat → Nat → Nat × Nat
  | 0, a, b => (a, b)
  | n + 1, a, b => euc n b (a % b)
theorem mod_half {a b : Nat} (hb : 0 < b) (h : b ≤ a) : 2 * (a % b) < a := by
  have h1 : a % b < b := Nat.mod_lt _ hb
  have h2 := Nat.div_add_mod a b
  have h3 : 1 ≤ a / b := Nat.div_pos h hb
  have h4 : b * 1 ≤ b * (a / b) := Nat.mul_le_mul_left b h3
  omega
/-- one step halves the product once b is at most a -/
theorem step_half {a b n : Nat} (hb : 0 < b) (h : b ≤ a) (hp : a * b < 2 ^ (n + 1)) : b * (a % b) < 2 ^ n := by
  have h1 := mod_half hb h
  have h2 : b * (2 * (a % b)) ≤ b * a := Nat.mul_le_mul_left b (Nat.le_of_lt h1)
  rw [Nat.pow_succ] at hp
  have h3 : b * (2 * (a % b)) = 2 * (b * (a % b)) := Nat.mul_left_comm _ _ _
  have h4 : b * a = a * b := Nat.mul_comm _ _
  omega
/-- where one is with n steps left: small enough to end -/
def EucEnds (n a b : Nat) : Prop := b = 0 ∨ (b ≤ a ∧ 1 ≤ n ∧ a * b < 2 ^ (n - 1)) ∨ (2 ≤ n ∧ a * b < 2 ^ (n - 2))
theorem EucEnds.step {n a b : Nat} (hb : b ≠ 0) (h : EucEnds (n + 1) a b) : EucEnds n b (a % b) := by
  have hb0 : 0 < b := Nat.pos_of_ne_zero hb
  have hlt : a % b < b := Nat.mod_lt _ hb0
  rcases h with h | ⟨h1, h2, h3⟩ | ⟨h2, h3⟩
  · exact absurd h hb
  · cases n with
    | zero =>
      have : a * b < 1 := h3
      have h5 : 0 < a * b := Nat.mul_pos (Nat.lt_of_lt_of_le hb0 h1) hb0
      omega
    | succ n =>
      refine .inr (.inl ⟨Nat.le_of_lt hlt, by omega, ?_⟩)
      exact step_half hb0 h1 h3
  · have h6 : b * (a % b) ≤ a * b := by
      rw [Nat.mul_comm]
      exact Nat.mul_le_mul_right b (Nat.mod_le a b)
    refine .inr (.inl ⟨Nat.le_of_lt hlt, by omega, ?_⟩)
    exact Nat.lt_of_le_of_lt h6 (by simpa using h3)
theorem EucEnds.zero {a b : Nat} (h : EucEnds 0 a b) : b = 0 := by
  rcases h with h | ⟨_, h, _⟩ | ⟨h, _⟩ <;> omega
theorem gcd_step {a b g : Nat} (h : Nat.gcd a b = g) : Nat.gcd b (a % b) = g := by
  rw [← h, Nat.gcd_comm a b, Nat.gcd_rec b a, Nat.gcd_comm]
theorem gcd_end {a g : Nat} (h : Nat.gcd a 0 = g) : a = g := by rw [← h, Nat.gcd_zero_right]
end Jf
set_option Elab.async false
set_option linter.all false
namespace Jf
theorem cmp_64 (q r : Rat) : (cmp q r).natAbs < 2 ^ 64 := by
  have : (cmp q r).natAbs ≤ 1 := by unfold cmp; split <;> (try split) <;> decide
  exact Nat.lt_of_le_of_lt this (by decide)
theorem cmp_anti (q r : Rat) : cmp q r = 0 - cmp r q := by unfold cmp; grind
theorem cmp_add (q r s : Rat) : cmp (q + s) (r + s) = cmp q r := by unfold cmp; grind
theorem cmp_sub (q r : Rat) : cmp (q - r) 0 = cmp q r := by unfold cmp; grind
theorem cmp_zero (q r : Rat) : cmp q r = 0 ↔ q = r := by unfold cmp; grind
theorem cmp_trans {q r s : Rat} (h1 : 0 ≤ cmp q r) (h2 : 0 ≤ cmp r s) : ¬ cmp q s < 0 := by unfold cmp at *; grind
theorem cmp_mul (q r s : Rat) : cmp (q * s) (r * s) = cmp q r * cmp s 0 := by
  unfold cmp
  by_cases h : q = r
  · subst h; simp
  · by_cases h0 : s = 0
    · subst h0; simp
    · have e1 : (q - r) * s ≠ 0 := by
        intro e
        rcases Rat.mul_eq_zero.mp e with e | e <;> grind
      have ne : ¬ q * s = r * s := by grind
      rw [if_neg ne, if_neg h, if_neg h0]
      by_cases hs : 0 < s
      · by_cases hq : r < q
        · have := Rat.mul_pos (show 0 < q - r by grind) hs
          grind
        · have := Rat.mul_pos (show 0 < r - q by grind) hs
          grind
      · by_cases hq : r < q
        · have := Rat.mul_pos (show 0 < q - r by grind) (show 0 < -s by grind)
          grind
        · have := Rat.mul_pos (show 0 < r - q by grind) (show 0 < -s by grind)
          grind
theorem six (q : Rat) : Rat.divInt (q.num * 6) (q.den * 6) = q := by
  rw [← Rat.divInt_mul_divInt, Rat.num_divInt_den, Rat.divInt_self' (by decide), Rat.mul_one]
theorem negs (q : Rat) : Rat.divInt (0 - q.num) (0 - q.den) = q := by
  rw [show 0 - q.num = q.num * (-1) by omega, show (0 : Int) - q.den = q.den * (-1) by omega, ← Rat.divInt_mul_divInt, Rat.num_divInt_den, Rat.divInt_self' (by decide), Rat.mul_one]
theorem r_assoc (a b c : Rat) : a + b + c = a + (b + c) := by grind
theorem r_massoc (a b c : Rat) : a * b * c = a * (b * c) := by grind
theorem r_dist (a b c : Rat) : a * (b + c) = a * b + a * c := by grind
theorem r_addsub (a b : Rat) : a + b - b = a := by grind
theorem r_subadd (a b : Rat) : a - b + b = a := by grind
theorem r_divmul (a b : Rat) (h : b ≠ 0) : a / b * b = a := by grind
theorem r_muldiv (a b : Rat) (h : b ≠ 0) : a * b / b = a := by grind
end Jf
set_option Elab.async false
set_option linter.all false
set_option maxRecDepth 100000
set_option maxHeartbeats 4000000
namespace Jf
open PySem PySem.Spec PyProof.Rows L2 Evl
/-- a def of the text behind the top -/
structure FT (K : PySem.W.Frag) (mg : Str → Option Value) (x : Str) (st : Stmt) (ps : List Str) where
  a : Addr
  fd : FuncData
  F : Fun K x x st a fd
  b : Binds K fd ps []
  g : mg x = some (.ref a)
/-- // by a divisor that is not 0, below 2 ^ 9000 in size -/
def CDivZ (_ j : Int) : Prop := j ≠ 0 ∧ j.natAbs.log2 < 9000
theorem op_fdivZ {X : Cx} : OpR X (binaryOp .FloorDiv) (rI CDivZ fun i j => .int (i.fdiv j)) := opI fun i j _ _ _ _ _ hc q =>
  floordiv_int hc.1 q (.inl (PyProof.noPylong_of_log2 hc.2))
theorem log_lt {j : Nat} {b c : Nat} (h : j < 2 ^ b) (hc : b ≤ c) (h0 : 0 < c) : j.log2 < c :=
  Nat.lt_of_lt_of_le (PySem.Flt.log2_lt_of h0 (lt_pow_mono hc h)) (Nat.le_refl _)
theorem mulW {i j : Int} {a b : Nat} (ha : i.natAbs < 2 ^ a) (hb : j.natAbs < 2 ^ b) (h : a + b ≤ 900000) : CMulW i j :=
  wide_mul (lt_pow_mono (Nat.le_succ a) ha) (lt_pow_mono (Nat.le_succ b) hb) (Nat.succ_pos _) (Nat.succ_pos _) (by omega)

/-! ### what evaluates to a value of a kind -/
def EvP (te : TE) (σ : L2.St) (H : Hp) (P : V → Hp → Prop) : Prop := ∀ H1, Ex H H1 → ∀ Q : VK, (∀ v H2, Ex H1 H2 → P v H2 → Q v H2) → te σ H1 Q
/-- a fraction of at most b bits stands at v -/
def Fr (K : PySem.W.Frag) (b : Nat) (q : Rat) (v : V) (H : Hp) : Prop := ∃ p, v = .ref p ∧ SqT K H p [.int q.num, .int (q.den : Int)] ∧ Bd b q
section
variable {K : PySem.W.Frag} {σ : L2.St} {H H' : Hp} {te ta tb : TE} {P : V → Hp → Prop} {v : V} {b c n : Nat} {q r : Rat}
theorem Fr.ex (e : Ex H H') (h : Fr K b q v H) : Fr K b q v H' := by
  obtain ⟨p, rfl, h, x⟩ := h
  exact ⟨p, rfl, ex_t e h, x⟩
theorem Fr.mono (e : b ≤ c) (h : Fr K b q v H) : Fr K c q v H := by
  obtain ⟨p, rfl, h, x⟩ := h
  exact ⟨p, rfl, h, x.mono e⟩
theorem Fr.bd (h : Fr K b q v H) : Bd b q := h.choose_spec.2.2
theorem EvP.mono (e : Ex H H') (h : EvP te σ H P) : EvP te σ H' P := fun H1 a Q q => h H1 (e.trans a) Q q
theorem ep_var {i : Nat} (h : σ[i]? = some (some v)) (hf : Fr K b q v H) : EvP (tVar i) σ H (Fr K b q) := fun H1 e _ k => ⟨v, h, k v H1 (Ex.refl H1) (hf.ex e)⟩
theorem ep_mono (h : EvP te σ H (Fr K b q)) (e : b ≤ c) : EvP te σ H (Fr K c q) := fun H1 a Q k => h H1 a Q fun v H2 e2 f => k v H2 e2 (f.mono e)
theorem ep_is (h : EvP te σ H (Fr K b q)) (e : q = r) : EvP te σ H (Fr K b r) := e ▸ h
theorem ev_0 (h : EvP te σ H (Fr K b q)) : Ev (tOp (rIxT K) te (tC (.int 0))) σ H (.int q.num) := fun H1 a Q k => h H1 a _ fun v H2 e2 f => by
  obtain ⟨p, rfl, f, _⟩ := f
  exact ⟨p, _, 0, .int q.num, rfl, rfl, f, rfl, k H2 e2⟩
theorem ev_1 (h : EvP te σ H (Fr K b q)) : Ev (tOp (rIxT K) te (tC (.int 1))) σ H (.int (q.den : Int)) := fun H1 a Q k => h H1 a _ fun v H2 e2 f => by
  obtain ⟨p, rfl, f, _⟩ := f
  exact ⟨p, _, 1, .int (q.den : Int), rfl, rfl, f, rfl, k H2 e2⟩
/-- a new pair of ints that are a fraction's -/
theorem ep_tup {x y : Int} (ha : Ev ta σ H (.int x)) (hb : Ev tb σ H (.int y)) (e1 : x = q.num) (e2 : y = (q.den : Int)) (bd : Bd b q) : EvP (tTup (tCons ta (tCons tb tNil))) σ H (Fr K b q) := fun H1 a Q k =>
  ha H1 a _ fun H2 a2 => hb H2 (a.trans a2) _ fun H3 a3 => ⟨by show 2 ≤ sizeLine; decide, fun p hp => k _ _ ((a2.trans a3).trans (Ex.new hp)) ⟨p, rfl, by subst e1 e2; exact SqT.of upd_same, bd⟩⟩
theorem ev_mulW {x y : Int} (ha : Ev ta σ H (.int x)) (hb : Ev tb σ H (.int y)) (h : CMulW x y) : Ev (tOp (rI CMulW fun i j => .int (i * j)) ta tb) σ H (.int (x * y)) := ev_op ha hb (rv_I h)
theorem ev_add {x y : Int} (ha : Ev ta σ H (.int x)) (hb : Ev tb σ H (.int y)) : Ev (tOp (rI0 fun i j => .int (i + j)) ta tb) σ H (.int (x + y)) := ev_op ha hb rv_I0
theorem ev_sub {x y : Int} (ha : Ev ta σ H (.int x)) (hb : Ev tb σ H (.int y)) : Ev (tOp (rI0 fun i j => .int (i - j)) ta tb) σ H (.int (x - y)) := ev_op ha hb rv_I0
theorem ev_fdivZ {x y : Int} (ha : Ev ta σ H (.int x)) (hb : Ev tb σ H (.int y)) (h : CDivZ x y) : Ev (tOp (rI CDivZ fun i j => .int (i.fdiv j)) ta tb) σ H (.int (x.fdiv y)) := ev_op ha hb (rv_I h)
theorem ev_neg {x : Int} (ha : Ev ta σ H (.int x)) : Ev (tUn (rU fun i => .int (-i)) ta) σ H (.int (-x)) := ev_un ha ru_neg
theorem s_retP {D : Ends} (h : EvP te σ H P) (k : ∀ v H1, Ex H H1 → P v H1 → D.rt v H1) : tRet te D σ H := h H (Ex.refl H) _ k
theorem s_asgP {D : Ends} {i : Nat} (h : EvP te σ H P) (k : ∀ v H1, Ex H H1 → P v H1 → D.nx (σ.set i (some v)) H1) : tAsg te (gName i) D σ H := h H (Ex.refl H) _ k
theorem s_dropP {D : Ends} (h : EvP te σ H P) (k : ∀ v H1, Ex H H1 → P v H1 → D.nx σ H1) : tDrop te D σ H := h H (Ex.refl H) _ k

/-! ### deep equality of two fractions -/
theorem Fr.dp (h : Fr K b q v H) : Dp K H v (.tuple [.int q.num, .int (q.den : Int)]) := by
  obtain ⟨p, rfl, h, _⟩ := h
  exact .tup h (.cons (.int _) (.cons (.int _) .nil))
theorem eqv_fr (q r : Rat) : PyData.eqv (.tuple [.int q.num, .int (q.den : Int)]) (.tuple [.int r.num, .int (r.den : Int)]) = decide (q = r) := by
  simp only [PyData.eqv, PyData.eqvAll, Bool.and_true]
  have e : q = r ↔ q.num = r.num ∧ (q.den : Int) = (r.den : Int) := by
    constructor
    · rintro rfl
      exact ⟨rfl, rfl⟩
    · rintro ⟨h1, h2⟩
      exact Rat.ext h1 (by omega)
  rw [Bool.eq_iff_iff]
  simp [e]
theorem ev_neD (ha : EvP ta σ H (Fr K b q)) (hb : EvP tb σ H (Fr K c r)) : Ev (tOp (rNeD K) ta tb) σ H (.bl (!decide (q = r))) := fun H1 a Q k =>
  ha H1 a _ fun x H2 a2 f => hb H2 (a.trans a2) _ fun y H3 a3 g => ⟨_, _, (f.ex a3).dp, g.dp, rfl, rfl, by
    rw [eqv_fr]
    exact k H3 (a2.trans a3)⟩
theorem ev_eqD (ha : EvP ta σ H (Fr K b q)) (hb : EvP tb σ H (Fr K c r)) : Ev (tOp (rEqD K) ta tb) σ H (.bl (decide (q = r))) := fun H1 a Q k =>
  ha H1 a _ fun x H2 a2 f => hb H2 (a.trans a2) _ fun y H3 a3 g => ⟨_, _, (f.ex a3).dp, g.dp, rfl, rfl, by
    rw [eqv_fr]
    exact k H3 (a2.trans a3)⟩

/-! ### a def of two fractions -/
/-- op q r, of b + c + 1 bits at most -/
def sp2 (K : PySem.W.Frag) (ok : Rat → Prop) (f : Rat → Rat → Rat) : Sp := fun vs H Q _ => ∃ (u v : V) (b c : Nat) (q r : Rat), vs = [u, v] ∧ Fr K b q u H ∧ Fr K c r v H ∧ b + c + 1 ≤ 8000 ∧ ok r ∧
  ∀ z H', Ex H H' → Fr K (b + c + 1) (f q r) z H' → Q z H'
theorem ep_2 {ok : Rat → Prop} {f : Rat → Rat → Rat} {E : XK} (ha : EvP ta σ H (Fr K b q)) (hb : EvP tb σ H (Fr K c r)) (hk : ok r) (hl : b + c + 1 ≤ 8000) (hn : b + c + 1 = n) : EvP (tCall (sp2 K ok f) [] E (tCons ta (tCons tb tNil))) σ H (Fr K n (f q r)) := fun H1 a Q k =>
  ha H1 a _ fun x H2 a2 g => hb H2 (a.trans a2) _ fun y H3 a3 h => ⟨x, y, b, c, q, r, rfl, g.ex a3, h, hl, hk, fun z H' e w => k z H' ((a2.trans a3).trans e) (by subst hn; exact w)⟩
/-- compare -/
def spC (K : PySem.W.Frag) : Sp := fun vs H Q _ => ∃ (u v : V) (b c : Nat) (q r : Rat), vs = [u, v] ∧ Fr K b q u H ∧ Fr K c r v H ∧ b + c + 1 ≤ 8000 ∧ ∀ H', Ex H H' → Q (.int (cmp q r)) H'
theorem ev_C {E : XK} (ha : EvP ta σ H (Fr K b q)) (hb : EvP tb σ H (Fr K c r)) (hl : b + c + 1 ≤ 8000) : Ev (tCall (spC K) [] E (tCons ta (tCons tb tNil))) σ H (.int (cmp q r)) := fun H1 a Q k =>
  ha H1 a _ fun x H2 a2 g => hb H2 (a.trans a2) _ fun y H3 a3 h => ⟨x, y, b, c, q, r, rfl, g.ex a3, h, hl, fun H' e => k H' ((a2.trans a3).trans e)⟩
/-- is_fraction of a fraction; require_fraction of one -/
def spIs (K : PySem.W.Frag) (x : V) : Sp := fun vs H Q _ => ∃ (u : V) (b : Nat) (q : Rat), vs = [u] ∧ Fr K b q u H ∧ ∀ H', Ex H H' → Q x H'
theorem ev_Is {E : XK} {x : V} (ha : EvP ta σ H (Fr K b q)) : Ev (tCall (spIs K x) [] E (tCons ta tNil)) σ H x := fun H1 a Q k =>
  ha H1 a _ fun u H2 a2 g => ⟨u, b, q, rfl, g, fun H' e => k H' (a2.trans e)⟩
/-- lowest, fraction of two ints -/
def spLow (K : PySem.W.Frag) : Sp := fun vs H Q _ => ∃ (n d : Int) (b : Nat), vs = [.int n, .int d] ∧ d ≠ 0 ∧ n.natAbs < 2 ^ b ∧ d.natAbs < 2 ^ b ∧ b ≤ 8000 ∧ ∀ z H', Ex H H' → Fr K b (Rat.divInt n d) z H' → Q z H'
theorem ep_Low {E : XK} {x y : Int} (ha : Ev ta σ H (.int x)) (hb : Ev tb σ H (.int y)) (hd : y ≠ 0) (hx : x.natAbs < 2 ^ b) (hy : y.natAbs < 2 ^ b) (hl : b ≤ 8000) (hq : Rat.divInt x y = q) : EvP (tCall (spLow K) [] E (tCons ta (tCons tb tNil))) σ H (Fr K b q) := fun H1 a Q k =>
  ha H1 a _ fun H2 a2 => hb H2 (a.trans a2) _ fun H3 a3 => ⟨x, y, b, rfl, hd, hx, hy, hl, fun z H' e w => k z H' ((a2.trans a3).trans e) (by subst hq; exact w)⟩
/-- of any int whether it is one; require_whole -/
def spWhole (x : V) : Sp := fun vs H Q _ => ∃ n : Int, vs = [.int n] ∧ ∀ H', Ex H H' → Q x H'
theorem ev_Whole {E : XK} {x : V} {n : Int} (ha : Ev ta σ H (.int n)) : Ev (tCall (spWhole x) [] E (tCons ta tNil)) σ H x := fun H1 a Q k =>
  ha H1 a _ fun H2 a2 => ⟨n, rfl, fun H' e => k H' (a2.trans e)⟩
end
end Jf
set_option Elab.async false
set_option linter.all false
set_option maxRecDepth 100000
set_option maxHeartbeats 4000000
namespace Jf
open PySem PySem.Spec PyProof.Rows L2 Evl
/-! ### defs that show data: no list or tuple is being shown when they are called -/
structure FnG (P : Program) (w : World) (K : PySem.W.Frag) (mg : Str → Option Value) (base : Heap) (k : Nat) (f : Addr) (fd : FuncData) (ps : List Str) (sp : Sp) : Prop where
  size : ∀ vs H Q E, sp vs H Q E → vs.length = ps.length
  go : ∀ (A : Around) (outer : List Env) (s : Shared) (H : Hp) (args : Args) (us : List Value) (vs : List V) (Q : VK), A.guards = some [] → Room k A →
    Env0 P w K mg base A outer s H → BindsTo s fd args (ps.zip us) → Vals vs us → sp vs H Q E0 → codeAny (model P w) A (.call (.ref f) args) (CR CX0 outer P w H s Q E0) s
section
variable {X : Cx} {k : Nat} {f : Addr} {fd : FuncData} {ps : List Str} {sp : Sp} {x : Str} {p pos : Pos} {e : Expr} {es : List Expr} {t : TA}
/-- f(e, ..) of such a def -/
theorem pe_callG (F : FnG X.prog X.w X.K X.mg X.base k f fd ps sp) (gd : X.A.guards = some []) (hr : Room k X.A) (hg : Gl X x) (hm : X.mg x = some (.ref f)) (hk : PySem.W.keepIn X.K (.ref f) = true) (hb : Binds X.K fd ps [])
    (ha : PA X (e :: es) t) (hdb : (x == ("__debug__" : Str)) = false := by decide)
    (he : starEach (e :: es) X.env = (false, eval e X.env) :: starEach es X.env := by rfl)
    (hpl : (backTo pos (starEach es X.env)).any (·.1) = false := by rfl) : PE X (.Call (.Name x p) (e :: es) [] pos) (tCall sp [] E0 t) := by
  constructor
  intro pins s σ H Q I h
  apply wpAny_Call_Name_kw
  apply ld_glob I hg hm _ hdb
  apply PySem.W.callWith_K (h₀ := X.base) I.ok.mod.kin hk _ he hpl
  apply thn (ha.run pos pins s σ H _ I h)
  rintro us s1 ⟨vs, H1, I1, r, q⟩
  refine ⟨I1.kIn, ?_⟩
  have q' : sp vs H1 Q E0 := by
    have z := q
    rw [List.append_nil] at z
    exact z
  have hz : us.length = ps.length := r.length ▸ F.size _ _ _ _ q'
  have bt := hb s1 us I1.kIn (by simpa using hz)
  rw [List.append_nil] at bt
  apply wpAny_call
  apply codeAny_mono (F.go X.A X.stack s1 H1 ⟨us, []⟩ us vs Q gd hr I1.env0 bt r q')
  intro res s' hq
  match res, hq with
  | .ok (.ret u), hq => exact I1.after hq
  | .error _, hq => exact False.elim hq
end
section
variable {P : Program} {w : World} {K : PySem.W.Frag} {mg : Str → Option Value} {base : Heap}
/-- such a def, by its body -/
theorem okG {x qual : Str} {st : Stmt} {f : Addr} {fd : FuncData} {N ps : List Str} {k : Nat} {sp : Sp} (F : Fun K x qual st f fd) (S : FnScope N ps (defScope st)) (len : ∀ vs H Q E, sp vs H Q E → vs.length = ps.length)
    (body : ∀ (cdv : Value) (A : Around) (outer : List Env) (s : Shared) (H : Hp) (vs : List V) (Q : VK), A.guards = some [] → Room k (A.deeper (envOfC qual (defScope st) s.heap.objs.size f cdv)) → sp vs H Q E0 →
      ∃ t, PSs (cxOf CX0 P w K mg base N qual (defScope st) f cdv A outer s H E0).nox (defBody st) t ∧ t { nx := fun _ H' => Q .non H', rt := Q } (start N vs) H) :
    FnG P w K mg base (k + 1) f fd ps sp := by
  obtain ⟨oc, od, kV, doc, pm, an, cdv, ct, osl, rfl, lk, hcd⟩ := F.ex
  constructor
  · exact len
  intro A outer s H args us vs Q gd hr e0 hb r hsp
  have here : ∀ b o, base.get? b = some o → s.heap.get? b = some o := fun b o e => (e0.bs b o e).1
  have KX : K.In s.heap := e0.mod.kin.keeps here
  have par : ∀ y ∈ ps.zip us, (defScope st).names.lookup y.1 = some .local ∨ ((defScope st).names.lookup y.1 = some .cell ∧ ((cellsFrom (s.heap.objs.size + 1) (defScope st).names []).lookup y.1).isSome = true) := by
    rintro ⟨n, v⟩ hy
    have q := S.par n (List.of_mem_zip hy).1
    exact q.imp id fun z => ⟨z, PySem.W.cellsFrom_some _ _ _ (.inl z)⟩
  apply codeAny_call_function hr.depth (KX _ _ lk) rfl S.co S.gen rfl (PySem.W.codeRec_of KX hcd)
  apply hb
  apply wpAny_newFunctionEnv_cells S.kind par
  intro env he s1 ic
  subst he
  refine ⟨(e0.mod.nolimit.keeps here).keeps ic.toInCall.keep, codeAny_func ?_⟩
  obtain ⟨t, ht, hq⟩ := body cdv A outer s H vs Q gd (hr.deeper _) hsp
  have I0 := inv_start (CX := CX0) (E := E0) S hr.hd e0 (len _ _ _ _ hsp) r ic
  apply wpAny_mono (ht.nox.run [] s1 (start N vs) H _ I0 hq)
  · intro fl s' hs
    match fl, hs with
    | .ret u, ⟨v, σ', H', J, rv, q⟩ => exact ⟨v, H', J.os, J.bare, J.base, J.hok, rv, q⟩
    | .next, ⟨σ', H', J, q⟩ => exact ⟨V.non, H', J.os, J.bare, J.base, J.hok, rfl, q⟩
    | .brk, ⟨_, _, _, q⟩ => exact False.elim q
    | .cont, ⟨_, _, _, q⟩ => exact False.elim q
  · intro e s' hs
    exact hs
end
/-! ### isinstance of the error that a suite holds, its own dict read -/
/-- what its class must say -/
structure ErrC (K : PySem.W.Frag) (C : Addr) : Prop where
  cl : (PySem.W.clsIn K C).isSome = true
  ga : PySem.W.findIn K (.ref C) "__getattribute__" = some (some (.builtin "BaseException.__getattribute__"))
  gg : PySem.W.findIn K (.ref C) "__getattr__" = some none
  ex : PySem.W.subIn K (.ref C) (.type "BaseException") = some true
  hd : PySem.W.hasDictIn K C = true
  kc : PySem.W.findIn K (.ref C) "__class__" = some (some (.builtin "object.__class__"))
  sp : PySem.W.specialIn K (.builtin "object.__class__") "__get__" = some (some (.builtin "getset_descriptor.__get__"))
  tk : PySem.W.takesIn K (.builtin "object.__class__") = some true
  mo : PySem.W.mroIn K C (.type "object") = some true
def rIsD (K : PySem.W.Frag) (a : Addr) (cls : Value) (d : Option Addr) : List V → Hp → VK → Prop := fun xs H Q => ∃ (C B dd : Addr) (fs : List (Str × V)) (b : Bool), xs = [.ref a, .ref B] ∧ cls = .ref C ∧ ErrC K C ∧ d = some dd ∧ H dd = some (.xd fs) ∧ PySem.W.kitOne K (.ref C) (.ref B) = some b ∧ Q (.bl b) H
theorem call_isD {X : Cx} {a : Addr} {oe : Obj} {cls : Value} {d : Option Addr} {pn : List (Addr × Obj)} (hz : Zc cls d oe) (hf : ∃ vs, oe.data = .fields vs) : CallR (X.suite a ((a, oe) :: pn)) (.builtin "isinstance") (rIsD X.K a cls d) := by
  intro pins s σ H xs us Q I r h
  obtain ⟨C, B, dd, fs, b, rfl, rfl, T, rfl, ed, hk, q⟩ := h
  cases r with
  | cons rx rr =>
    cases rr with
    | cons rt rr =>
      cases rr
      cases rx
      cases rt
      have hget := (I.pin (a, oe) (List.mem_append_left _ List.mem_cons_self)).1
      obtain ⟨vs, hv⟩ := hf
      have hx : ObjOk X.prog X.w H s.heap dd (.xd fs) := I.hok dd _ ed
      obtain ⟨mA, hns, _⟩ := hx
      obtain ⟨od, ho, _⟩ := lookIn_ns hns
      have J : PySem.W.InstAt s.heap a oe C (some od) := by
        refine ⟨hget, hz.1, ?_, ?_⟩
        · unfold PySem.W.notCls
          rw [hv] <;> rfl
        · rw [hz.2]
          exact ho
      refine PySem.W.kia_one (PySem.W.kitx_exc T.cl T.ga T.gg T.ex T.kc T.sp T.tk T.mo) I.kIn J hk (fun z => nomatch z) ?_
      intro tk
      exact ⟨.bl b, H, I.kept (t' := tk) fun _ _ z => z, rfl, q⟩
/-! ### repr -/
/-- a list that is written out: it isn't at sys.modules -/
def tLstN (t : TA) : TE := fun σ H Q => t σ H fun xs H1 => xs.length ≤ sizeLine ∧ ∀ p, H1 p = none → p ≠ sysModules → Q (.ref p) (upd H1 p (.lst xs))
theorem pe_lstN {X : Cx} {es : List Expr} {t : TA} {pos : Pos} (h : PA X es t) : PE X (.List es pos) (tLstN t) := by
  constructor
  intro pins s σ H Q I want
  apply wpAny_List_spliced
  apply thn (h.run pos pins s σ H _ I want)
  rintro us s1 ⟨xs, H1, I1, vals, len, k⟩
  have free : H1 s1.heap.objs.size = none := I1.hok.fresh (Nat.le_refl _)
  refine ⟨vals.length ▸ len, .ref _, upd H1 _ (.lst xs), I1.laid (t' := s1.toks) (fun _ _ e => Heap.get?_push_of_some _ e) (Nat.le_refl _) ⟨len, us, 0, vals, Heap.get?_push_size _ rfl⟩, rfl, ?_⟩
  exact k _ free (Nat.ne_of_gt I1.big)
mutual
/-- data at a value: lists that are tracked (and are not what stands at p), tuples, the empty dict -/
inductive Dq (K : PySem.W.Frag) (p : Addr) (H : Hp) : V → PyData → Prop
  | non : Dq K p H .non .none
  | bl (b : Bool) : Dq K p H (.bl b) (.bool b)
  | int (i : Int) : Dq K p H (.int i) (.int i)
  | str (x : Str) : Dq K p H (.str x) (.str x)
  | lst {a : Addr} {xs : List V} {ds : List PyData} : a ≠ p → a ≠ sysModules → H a = some (.lst xs) → DqAll K p H xs ds → Dq K p H (.ref a) (.list ds)
  | tup {a : Addr} {xs : List V} {ds : List PyData} : SqT K H a xs → DqAll K p H xs ds → Dq K p H (.ref a) (.tuple ds)
  | emp {a : Addr} : H a = some (.dK []) → Dq K p H (.ref a) (.dict [])
inductive DqAll (K : PySem.W.Frag) (p : Addr) (H : Hp) : List V → List PyData → Prop
  | nil : DqAll K p H [] []
  | cons {v : V} {vs : List V} {d : PyData} {ds : List PyData} : Dq K p H v d → DqAll K p H vs ds → DqAll K p H (v :: vs) (d :: ds)
end
mutual
theorem Dq.ex {K : PySem.W.Frag} {p : Addr} {H H' : Hp} (e : Ex H H') : ∀ (d : PyData) (v : V), Dq K p H v d → Dq K p H' v d
  | _, _, .non => .non
  | _, _, .bl b => .bl b
  | _, _, .int i => .int i
  | _, _, .str x => .str x
  | _, _, .lst n m h hs => .lst n m (e _ _ h) (DqAll.ex e _ _ hs)
  | _, _, .tup h hs => .tup (ex_t e h) (DqAll.ex e _ _ hs)
  | _, _, .emp h => .emp (e _ _ h)
theorem DqAll.ex {K : PySem.W.Frag} {p : Addr} {H H' : Hp} (e : Ex H H') : ∀ (ds : List PyData) (vs : List V), DqAll K p H vs ds → DqAll K p H' vs ds
  | _, _, .nil => .nil
  | _, _, .cons h hs => .cons (Dq.ex e _ _ h) (DqAll.ex e _ _ hs)
end
section
variable {X : Cx} {pins : List (Addr × Obj)} {σ : L2.St} {H : Hp} {s : Shared}
mutual
theorem Dq.reads {p : Addr} (I : Inv X pins σ H s) : ∀ (d : PyData) (v : V) (u : Value), Dq X.K p H v d → RelV v u → ∃ as, Reads s.heap u d as ∧ sysModules ∉ as
  | _, _, u, .non, r => by
    cases (show u = Value.none from r)
    exact ⟨_, .none, by simp⟩
  | _, _, u, .bl b, r => by
    cases (show u = Value.bool b from r)
    exact ⟨_, .bool b, by simp⟩
  | _, _, u, .int i, r => by
    obtain ⟨t, q⟩ := (show ∃ t, u = Value.int i t from r)
    cases q
    exact ⟨_, .int i t, by simp⟩
  | _, _, u, .str x, r => by
    obtain ⟨t, q⟩ := (show ∃ t, u = Value.str x t from r)
    cases q
    exact ⟨_, .str x t, by simp⟩
  | _, _, u, .lst (a := a) _ m h hs, r => by
    cases (show u = Value.ref a from r)
    have hx : ObjOk X.prog X.w H s.heap a (.lst _) := I.hok a _ h
    obtain ⟨_, its, n, rv, e⟩ := hx
    obtain ⟨as, q, nm⟩ := DqAll.reads I _ _ _ hs rv
    exact ⟨_, .list e rfl rfl (by simpa using q), by
      simp only [List.mem_cons, not_or]
      exact ⟨m.symm, nm⟩⟩
  | _, _, u, .tup (a := a) h hs, r => by
    cases (show u = Value.ref a from r)
    obtain ⟨its, rv, ⟨o, e, c, n, dd⟩, _⟩ := I.tuple h
    obtain ⟨as, q, nm⟩ := DqAll.reads I _ _ _ hs rv
    exact ⟨_, .tuple e c dd (by simpa using q), nm⟩
  | _, _, u, .emp (a := a) h, r => by
    cases (show u = Value.ref a from r)
    obtain ⟨_, nsm, vs, kv, o, es, ep, e, x, dd, _, pr, _⟩ := dk_of I.hok h
    cases kv
    have e0 : es.toList = [] := by
      cases hh : es.toList with
      | nil => rfl
      | cons y ys =>
        rw [hh] at pr
        cases pr
    exact ⟨_, .dict (as := []) (bs := []) e x.1 dd (by rw [e0]; exact .nil) (by rw [e0]; exact .nil), by
      have := (beq_eq_false_iff_ne.mp nsm).symm
      simpa using this⟩
theorem DqAll.reads {p : Addr} (I : Inv X pins σ H s) : ∀ (ds : List PyData) (vs : List V) (us : List Value), DqAll X.K p H vs ds → Vals vs us → ∃ as, ReadsAll s.heap us ds as ∧ sysModules ∉ as
  | _, _, us, .nil, r => by
    cases r
    exact ⟨_, .nil, by simp⟩
  | _, _, us, .cons h hs, r => by
    cases r with
    | cons r1 r2 =>
      obtain ⟨as, q1, n1⟩ := Dq.reads I _ _ _ h r1
      obtain ⟨bs, q2, n2⟩ := DqAll.reads I _ _ _ hs r2
      exact ⟨_, .cons q1 q2, by
        simp only [List.mem_append, not_or]
        exact ⟨n1, n2⟩⟩
end
end
mutual
theorem Dp.nd {K : PySem.W.Frag} {H : Hp} : ∀ (d : PyData) (v : V), Dp K H v d → d.hasDict = false
  | _, _, .non => rfl
  | _, _, .bl _ => rfl
  | _, _, .int _ => rfl
  | _, _, .str _ => rfl
  | _, _, .lst _ hs => by simp only [PyData.hasDict]; exact DpAll.nd _ _ hs
  | _, _, .tup _ hs => by simp only [PyData.hasDict]; exact DpAll.nd _ _ hs
theorem DpAll.nd {K : PySem.W.Frag} {H : Hp} : ∀ (ds : List PyData) (vs : List V), DpAll K H vs ds → PyData.hasDictAll ds = false
  | _, _, .nil => rfl
  | _, _, .cons h hs => by simp only [PyData.hasDictAll, Dp.nd _ _ h, DpAll.nd _ _ hs, Bool.or_false]
end
def rRepr (K : PySem.W.Frag) : List V → Hp → VK → Prop := fun xs H Q => ∃ (x : V) (d : PyData) (p : Addr), xs = [x] ∧ (Dq K p H x d ∨ Dp K H x d) ∧ d.showable = true ∧ d.depth ≤ 60 ∧ d.shown.length ≤ sizeLine ∧ Q (.str d.shown) H
section
variable {X : Cx}
theorem call_repr (gd : X.A.guards = some []) (hu : X.A.units + 64 < cLine) : CallR X (.builtin "repr") (rRepr X.K) := by
  intro pins s σ H xs us Q I r h
  obtain ⟨x, d, p, rfl, hd, hs, hdep, hz, q⟩ := h
  cases r with
  | cons r1 r2 =>
    cases r2
    rename_i u
    obtain ⟨as, hr, nm⟩ : ∃ as, Reads s.heap u d as ∧ (d.hasDict = true → sysModules ∉ as) := by
      rcases hd with hd | hd
      · obtain ⟨as, hr, nm⟩ := Dq.reads I d x u hd r1
        exact ⟨as, hr, fun _ => nm⟩
      · obtain ⟨as, hr⟩ := Dp.reads I d x u hd r1
        exact ⟨as, hr, fun z => by rw [Dp.nd d x hd] at z; cases z⟩
    have fin : ∀ h' u' tk, (∀ b o, s.heap.get? b = some o → h'.get? b = some o) → EP X pins σ Q (.str d.shown u') { s with heap := h', toks := tk } := fun h' u' tk hk => ⟨.str d.shown, H, I.kept hk, ⟨_, rfl⟩, q⟩
    have f0 := fin s.heap s.toks (s.toks + 1) (fun _ _ z => z)
    cases hr with
    | none => exact PySem.P.repr_of_none (by simpa [PyData.shown] using f0)
    | bool b => exact PySem.P.repr_of_bool (by simpa [PyData.shown] using f0)
    | int i t => exact PySem.P.repr_of_int (by simpa [PyData.showable] using hs) (by simpa [PyData.shown] using f0)
    | str y t => exact PySem.P.repr_of_str (by simpa [PyData.shown] using f0) (by simpa [PyData.shown] using hz)
    | list h1 h2 h3 h4 => exact repr_of_reads' (.list h1 h2 h3 h4) hs nm gd (by omega) (fun _ _ z => z) (fun h' u' tk hk => fin h' u' tk hk) hz
    | tuple h1 h2 h3 h4 => exact repr_of_reads' (.tuple h1 h2 h3 h4) hs nm gd (by omega) (fun _ _ z => z) (fun h' u' tk hk => fin h' u' tk hk) hz
    | dict h1 h2 h3 h4 h5 => exact repr_of_reads' (.dict h1 h2 h3 h4 h5) hs nm gd (by omega) (fun _ _ z => z) (fun h' u' tk hk => fin h' u' tk hk) hz
end
end Jf
set_option Elab.async false
set_option linter.all false
set_option maxRecDepth 100000
set_option maxHeartbeats 4000000
namespace Jf
open PySem PySem.Spec PyProof.Rows L2 Evl
/-! ### how long shown data is -/
def lens : List Str → Nat
  | [] => 0
  | t :: ts => t.length + 2 + lens ts
theorem textFrom_le : ∀ (ts : List Str) (k : Nat) (acc : Str), (textFrom k acc ts).length ≤ acc.length + lens ts
  | [], _, acc => by simp [textFrom, lens]
  | t :: ts, k, acc => by
    have h := textFrom_le ts (k + 1) (acc ++ (if k > 0 then ", " else "" : String) ++ t)
    have e : ((if k > 0 then ", " else "" : String) : Str).length ≤ 2 := by
      by_cases z : k > 0
      · rw [if_pos z]; decide
      · rw [if_neg z]; decide
    simp only [textFrom, lens, Str.length_append] at h ⊢
    omega
theorem join_le : ∀ ts : List Str, (Str.join ", " ts).length ≤ lens ts
  | [] => by simp only [Str.join, lens]; decide
  | [x] => by simp only [Str.join, lens]; omega
  | x :: y :: r => by
    have h := join_le (y :: r)
    have e : ((", " : String) : Str).length = 2 := by decide
    simp only [Str.join, lens, Str.length_append] at h ⊢
    omega
mutual
def cost : PyData → Nat
  | .none => 4
  | .bool _ => 5
  | .int i => i.natAbs.log2 + 3
  | .str x => (reprText x).length
  | .list xs => costAll xs + 4
  | .tuple xs => costAll xs + 4
  | .dict [] => 2
  | .dict (_ :: _) => 100000000
def costAll : List PyData → Nat
  | [] => 0
  | x :: xs => cost x + 2 + costAll xs
end
mutual
theorem shown_le : ∀ d : PyData, cost d < 100000000 → d.shown.length ≤ cost d
  | .none, _ => by simp only [PyData.shown, cost]; decide
  | .bool b, _ => by cases b <;> (simp only [PyData.shown, cost]; decide)
  | .int i, _ => by
    simp only [PyData.shown, cost]
    have h := int_text_length_le (a := i) (k := i.natAbs.log2 + 1) (by omega) (by omega)
    show (Str.ofString (toString i)).length ≤ _
    rw [PySem.ofString_length]
    omega
  | .str x, _ => by simp only [PyData.shown, cost]; omega
  | .list xs, h => by
    simp only [cost] at h
    have := shownAll_le xs (by omega)
    have z := textFrom_le (PyData.shownAll xs) 0 (Str.ofString "[")
    have e : (Str.ofString "[").length = 1 := by decide
    have e2 : (Str.ofString "]").length = 1 := by decide
    simp only [PyData.shown, cost, listText, Str.length_append] at z ⊢
    omega
  | .tuple xs, h => by
    simp only [cost] at h
    have := shownAll_le xs (by omega)
    have z := join_le (PyData.shownAll xs)
    have e : (Str.ofString "(").length = 1 := by decide
    have e2 : ((if (PyData.shownAll xs).length == 1 then ",)" else ")" : String) : Str).length ≤ 2 := by
      by_cases q : ((PyData.shownAll xs).length == 1) = true
      · rw [if_pos q]; decide
      · rw [if_neg q]; decide
    simp only [PyData.shown, cost, tupleText, Str.length_append] at z ⊢
    omega
  | .dict [], _ => by simp only [PyData.shown, PyData.shownKv, cost]; decide
  | .dict (_ :: _), h => by simp only [cost] at h; omega
theorem shownAll_le : ∀ ds : List PyData, costAll ds < 100000000 → lens (PyData.shownAll ds) ≤ costAll ds
  | [], _ => by simp [PyData.shownAll, lens, costAll]
  | d :: ds, h => by
    simp only [costAll] at h
    have h1 := shown_le d (by omega)
    have h2 := shownAll_le ds (by omega)
    simp only [PyData.shownAll, lens, costAll]
    omega
end
/-- data that is shown without harm: its text, its depth -/
structure Nc (c e : Nat) (d : PyData) : Prop where
  sh : d.showable = true
  dp : d.depth ≤ e
  co : cost d ≤ c
theorem Nc.mono {c c' e e' : Nat} {d : PyData} (h : Nc c e d) (h1 : c ≤ c') (h2 : e ≤ e') : Nc c' e' d := ⟨h.sh, Nat.le_trans h.dp h2, Nat.le_trans h.co h1⟩
theorem Nc.len {c e : Nat} {d : PyData} (h : Nc c e d) (hc : c ≤ 1000000) : d.shown.length ≤ c := Nat.le_trans (shown_le d (by have := h.co; omega)) h.co
theorem nc_none : Nc 4 0 .none := ⟨rfl, Nat.le_refl _, Nat.le_refl _⟩
theorem nc_bool (b : Bool) : Nc 5 0 (.bool b) := ⟨rfl, Nat.le_refl _, Nat.le_refl _⟩
theorem nc_int {n : Int} {b : Nat} (h : n.natAbs < 2 ^ b) (h0 : 0 < b) (h1 : b ≤ 1900) : Nc (b + 2) 0 (.int n) := by
  have := PySem.Flt.log2_lt_of h0 h
  refine ⟨?_, Nat.le_refl _, ?_⟩
  · simp only [PyData.showable, decide_eq_true_eq]; omega
  · simp only [cost]; omega
theorem nc_str {x : Str} {c : Nat} (h : (reprText x).length ≤ c) : Nc c 0 (.str x) := ⟨rfl, Nat.le_refl _, h⟩
/-- several -/
structure NcA (c e : Nat) (ds : List PyData) : Prop where
  sh : PyData.showableAll ds = true
  dp : PyData.depthAll ds ≤ e
  co : costAll ds ≤ c
theorem nca_nil {e : Nat} : NcA 0 e [] := ⟨rfl, Nat.zero_le _, Nat.le_refl _⟩
theorem nca_cons {c c' e : Nat} {d : PyData} {ds : List PyData} (h : Nc c e d) (hs : NcA c' e ds) : NcA (c + 2 + c') e (d :: ds) := by
  refine ⟨?_, ?_, ?_⟩
  · simp only [PyData.showableAll, h.sh, hs.sh, Bool.and_self]
  · simp only [PyData.depthAll]; exact Nat.max_le.mpr ⟨h.dp, hs.dp⟩
  · simp only [costAll]; have := h.co; have := hs.co; omega
theorem nc_tup {c e : Nat} {ds : List PyData} (h : NcA c e ds) : Nc (c + 4) (e + 1) (.tuple ds) := by
  refine ⟨?_, ?_, ?_⟩
  · simp only [PyData.showable, h.sh]
  · simp only [PyData.depth]; have := h.dp; omega
  · simp only [cost]; have := h.co; omega
theorem nc_lst {c e : Nat} {ds : List PyData} (h : NcA c e ds) : Nc (c + 4) (e + 1) (.list ds) := by
  refine ⟨?_, ?_, ?_⟩
  · simp only [PyData.showable, h.sh]
  · simp only [PyData.depth]; have := h.dp; omega
  · simp only [cost]; have := h.co; omega
theorem nc_emp : Nc 2 1 (.dict []) := ⟨rfl, Nat.le_refl _, Nat.le_refl _⟩
theorem nc_pair {n m : Int} {b : Nat} (hn : n.natAbs < 2 ^ b) (hm : m.natAbs < 2 ^ b) (h0 : 0 < b) (h1 : b ≤ 1900) : Nc (2 * b + 12) 1 (.tuple [.int n, .int m]) :=
  (nc_tup (nca_cons (nc_int hn h0 h1) (nca_cons (nc_int hm h0 h1) nca_nil))).mono (by omega) (by omega)
/-! ### which data is what -/
def tyName : PyData → String
  | .none => "NoneType"
  | .bool _ => "bool"
  | .int _ => "int"
  | .str _ => "str"
  | .list _ => "list"
  | .tuple _ => "tuple"
  | .dict _ => "dict"
def isTup : PyData → Bool
  | .tuple _ => true
  | _ => false
def isInt : PyData → Bool
  | .int _ => true
  | .bool _ => true
  | _ => false
def isBo : PyData → Bool
  | .bool _ => true
  | _ => false
def isWh : PyData → Bool
  | .int _ => true
  | _ => false
theorem wh_eq (d : PyData) : (isInt d && !isBo d) = isWh d := by cases d <;> rfl
theorem kit_tup (d : PyData) : kitB (tyName d) "tuple" = some (isTup d) := by cases d <;> (simp only [tyName, isTup]; decide +kernel)
theorem kit_int (d : PyData) : kitB (tyName d) "int" = some (isInt d) := by cases d <;> (simp only [tyName, isInt]; decide +kernel)
theorem kit_bool (d : PyData) : kitB (tyName d) "bool" = some (isBo d) := by cases d <;> (simp only [tyName, isBo]; decide +kernel)
section
variable {K : PySem.W.Frag} {p : Addr} {H H' : Hp} {v : V} {d : PyData}
theorem Dq.ty (h : Dq K p H v d) : TyX K H v (.type (tyName d)) := by
  cases h with
  | non => exact .base .non
  | bl b => exact .base (.bl b)
  | int i => exact .base (.int i)
  | str x => exact .base (.str x)
  | lst _ _ h _ => exact .base (.lst h)
  | tup h _ =>
    rcases h with (h | ⟨o, h⟩) | ⟨o, _, _, h, c, _⟩
    · exact .base (.tup h)
    · exact .fTuple h
    · exact .kTuple h c
  | emp h => exact .base (.dK h)
theorem DqAll.len : ∀ {vs : List V} {ds : List PyData}, DqAll K p H vs ds → vs.length = ds.length
  | _, _, .nil => rfl
  | _, _, .cons _ h => by rw [List.length_cons, List.length_cons, h.len]
theorem DqAll.mem : ∀ {vs : List V} {ds : List PyData}, DqAll K p H vs ds → ∀ x ∈ vs, ∃ d ∈ ds, Dq K p H x d
  | _, _, .nil, x, hx => nomatch hx
  | _, _, .cons (d := d) h hs, x, hx => by
    rcases List.mem_cons.mp hx with rfl | hx
    · exact ⟨d, List.mem_cons_self, h⟩
    · obtain ⟨e, he, q⟩ := hs.mem x hx
      exact ⟨e, List.mem_cons_of_mem _ he, q⟩
theorem DqAll.append : ∀ {vs ws : List V} {ds es : List PyData}, DqAll K p H vs ds → DqAll K p H ws es → DqAll K p H (vs ++ ws) (ds ++ es)
  | _, _, _, _, .nil, h => h
  | _, _, _, _, .cons a b, h => .cons a (b.append h)
/-- a fraction's data -/
def frd (q : Rat) : PyData := .tuple [.int q.num, .int (q.den : Int)]
theorem Fr.dq {b : Nat} {q : Rat} (h : Fr K b q v H) : Dq K p H v (frd q) := by
  obtain ⟨a, rfl, h, _⟩ := h
  exact .tup h (.cons (.int _) (.cons (.int _) .nil))
theorem Fr.nc {b : Nat} {q : Rat} (h : Fr K b q v H) (h0 : 0 < b) (h1 : b ≤ 1900) : Nc (2 * b + 12) 1 (frd q) := nc_pair h.bd.1 (bd_den h.bd) h0 h1
/-- whether it is a fraction's -/
def frB : PyData → Bool
  | .tuple [.int n, .int m] => decide (0 < m) && decide (Nat.gcd n.natAbs m.natAbs = 1)
  | _ => false
def frQ : PyData → Rat
  | .tuple [.int n, .int m] => Rat.divInt n m
  | _ => 0
theorem divInt_low {n m : Int} (hm : 0 < m) (hg : Nat.gcd n.natAbs m.natAbs = 1) : (Rat.divInt n m).num = n ∧ ((Rat.divInt n m).den : Int) = m := by
  obtain ⟨h1, h2⟩ := low_eq n m (by omega) 1 (by rw [if_neg (by omega)])
  rw [hg] at h1 h2
  constructor
  · rw [← h1]; simp
  · rw [← h2]; simp
theorem frB_frd (q : Rat) : frB (frd q) = true := by
  have := den_pos q
  have h := red q
  simp only [frd, frB, h, decide_true, Bool.and_true, decide_eq_true_eq]
  exact this
theorem frQ_frd (q : Rat) : frQ (frd q) = q := by
  simp only [frd, frQ]
  exact Rat.num_divInt_den q
theorem frB_iff (h : frB d = true) : d = frd (frQ d) := by
  unfold frB at h
  split at h
  · rename_i n m
    rw [Bool.and_eq_true] at h
    obtain ⟨h1, h2⟩ := divInt_low (of_decide_eq_true h.1) (of_decide_eq_true h.2)
    simp only [frd, frQ, h1, h2]
  · cases h
theorem Dq.fr {b : Nat} (h : Dq K p H v d) (hb : frB d = true) (bd : Bd b (frQ d)) : Fr K b (frQ d) v H := by
  have e := frB_iff hb
  generalize frQ d = q at e bd
  subst e
  cases h with
  | tup h hs =>
    cases hs with
    | cons h1 h2 =>
      cases h2 with
      | cons h3 h4 =>
        cases h4
        cases h1
        cases h3
        exact ⟨_, rfl, h, bd⟩
end
end Jf
set_option Elab.async false
set_option linter.all false
set_option maxRecDepth 100000
set_option maxHeartbeats 4000000
namespace Jf
open PySem PySem.Spec PyProof.Rows L2 Evl
/-! ### the end of a law whose def shows data -/
/-- the script, known to its object; else nothing -/
def track (a : Addr) (vs : List Value) (ns : List Int) : Hp := fun b => if b = a then some (.frz { cls := .type "list", data := .seq vs.toArray } (.lst (ns.map V.int))) else none
theorem track_at {a : Addr} {vs : List Value} {ns : List Int} : track a vs ns a = some (.frz { cls := .type "list", data := .seq vs.toArray } (.lst (ns.map V.int))) := if_pos rfl
theorem track_ne {a b : Addr} {vs : List Value} {ns : List Int} (h : b ≠ a) : track a vs ns b = none := if_neg h
/-- what the law's promise is asked at -/
structure Asked (K : PySem.W.Frag) (h : Heap) (a : Addr) (vs : List Value) (ns : List Int) (H : Hp) : Prop where
  known : SqL K H a (ns.map V.int)
  only : ∀ b u, H b = some u → b = a ∧ ∃ o xs, u = .frz o (.lst xs)
  free : ∀ b o, K.lookup b = some o → H b = none
theorem seq_not_dict {h : Heap} {a : Addr} {vs : Array Value} {m : Str → Option Value} (ha : h.get? a = some { cls := .type "list", data := .seq vs }) : ¬ h.Ns a m := by
  rintro ⟨o, es, ep, e, d, _⟩
  rw [ha] at e
  cases e
  cases d
section
variable {P : Program} {w : World} {K : PySem.W.Frag} {mg mb : Str → Option Value} {k : Nat} {fa a : Addr} {fd : FuncData} {x : Str} {sp : Sp} {s₁ : Shared} {vs : List Value} {ns : List Int}
theorem go_law {H : Hp} (S : Asked K s₁.heap a vs ns H) (hok : HOk P w H s₁.heap) (KX : K.In s₁.heap) (hns : s₁.heap.Ns mainGlobals mg) (hb : s₁.heap.Ns builtinsNs mb) (hbb : ∀ x : Str, x ≠ "__name__" → mb x = bootBuiltins x) (hlim : s₁.heap.NoLimit) (hg : s₁.gens = #[])
    (ha : s₁.heap.get? a = some { cls := .type "list", data := .seq vs.toArray }) (hr : Room k callerA)
    (F : ∀ base : Heap, K.In base → base.Ns mainGlobals mg → FnG P w K mg base k fa fd [x] sp) (hbind : ∀ (s : Shared) (u : Value), BindsTo s fd ⟨[u], []⟩ [(x, u)])
    (hsp : sp [.ref a] H (fun v _ => v = .bl true) E0) :
    codeAny (model P w) callerA (.call (.ref fa) ⟨[.ref a], []⟩) (fun r s' => r = .ok (.ret (.bool true)) ∧ PySem.OldK s₁.heap s'.heap ∧ s'.os = s₁.os ∧ AllBare s'.gens) s₁ := by
  have ns_of : ∀ {b : Addr} {m : Str → Option Value}, s₁.heap.Ns b m → (hidT s₁.heap H).Ns b m := by
    intro b m hn
    have hn' := hn
    obtain ⟨o, es, ep, e, r⟩ := hn
    refine ⟨o, es, ep, hidT_get e ?_, r⟩
    cases q : H b with
    | none => rfl
    | some u =>
      obtain ⟨rfl, _⟩ := S.only b u q
      exact absurd hn' (seq_not_dict ha)
  have hKb : K.In (hidT s₁.heap H) := fun b o e => hidT_get (KX b o e) (S.free b o e)
  obtain ⟨mc, l1, l2⟩ := hlim
  have e0 : Env0 P w K mg (hidT s₁.heap H) callerA [] s₁ H := by
    constructor
    · rfl
    · exact ⟨hKb, ns_of hns, ⟨mb, ns_of hb, hbb⟩, ⟨mc, ns_of l1, l2⟩⟩
    · exact fun b o e => of_hidT e
    · exact Nat.le_of_eq (hidT_size _ _)
    · trivial
    · intro b hb
      exact absurd (show b ∈ ([] : List Addr) from hb) (by simp)
    · exact hok
    · exact .of_eq hg
  apply codeAny_mono ((F _ hKb (ns_of hns)).go callerA [] s₁ H ⟨[.ref a], []⟩ [.ref a] [.ref a] _ rfl hr e0 (hbind s₁ (.ref a)) (.cons rfl .nil) hsp)
  intro r s' h
  match r, h with
  | .error _, h => exact False.elim h
  | .ok (.ret u), ⟨v, H', os, bare, un, hok', r', q⟩ =>
    subst q
    obtain rfl : u = Value.bool true := r'
    refine ⟨rfl, PySem.OldK.of_keep ?_, os, bare⟩
    intro b o e
    cases q : H b with
    | none => exact un.keep b o e q (by intro z; exact absurd (show b ∈ ([] : List Addr) from z) (by simp)) (by simp)
    | some u =>
      obtain ⟨rfl, ob, xs, rfl⟩ := S.only b u q
      have q2 := un.frzs b ob _ q
      have e1 := (hok b _ q).1
      have e2 := (hok' b _ q2).1
      rw [e] at e1
      cases e1
      exact e2
theorem law_callG (KX : K.In s₁.heap) (hns : s₁.heap.Ns mainGlobals mg) (hb : s₁.heap.Ns builtinsNs mb) (hbb : ∀ x : Str, x ≠ "__name__" → mb x = bootBuiltins x) (hlim : s₁.heap.NoLimit) (hg : s₁.gens = #[])
    (ha : s₁.heap.get? a = some { cls := .type "list", data := .seq vs.toArray }) (hi : IntsAre vs ns) (hl : ns.length ≤ sizeLine) (hr : Room k callerA)
    (F : ∀ base : Heap, K.In base → base.Ns mainGlobals mg → FnG P w K mg base k fa fd [x] sp) (hbind : ∀ (s : Shared) (u : Value), BindsTo s fd ⟨[u], []⟩ [(x, u)])
    (hsp : ∀ H : Hp, SqL K H a (ns.map V.int) → sp [.ref a] H (fun v _ => v = .bl true) E0) :
    codeAny (model P w) callerA (.call (.ref fa) ⟨[.ref a], []⟩) (fun r s' => r = .ok (.ret (.bool true)) ∧ PySem.OldK s₁.heap s'.heap ∧ s'.os = s₁.os ∧ AllBare s'.gens) s₁ := by
  have rv := vals_ints hi
  cases hk : K.lookup a with
  | some o =>
    have e := KX a o hk
    rw [ha] at e
    cases e
    have known : SqL K (fun _ => none) a (ns.map V.int) := .inr ⟨_, vs.toArray, _, hk, rfl, rfl, rfl, by rw [List.size_toArray, hi.length]; exact hl, by simpa using rv⟩
    exact go_law (H := fun _ => none) ⟨known, (fun _ _ z => nomatch z), (fun _ _ _ => rfl)⟩ (fun _ _ z => nomatch z) KX hns hb hbb hlim hg ha hr F hbind (hsp _ known)
  | none =>
    have known : SqL K (track a vs ns) a (ns.map V.int) := .inl (.inr ⟨_, track_at⟩)
    refine go_law (H := track a vs ns) ⟨known, fun b u z => ?_, fun b o z => track_ne ?_⟩ (fun b u z => ?_) KX hns hb hbb hlim hg ha hr F hbind (hsp _ known)
    · by_cases h : b = a
      · subst h
        rw [track_at] at z
        cases z
        exact ⟨rfl, _, _, rfl⟩
      · rw [track_ne h] at z
        cases z
    · rintro rfl
      rw [hk] at z
      cases z
    · by_cases h : b = a
      · subst h
        rw [track_at] at z
        cases z
        exact ⟨ha, by rw [List.length_map]; exact hl, vs, _, rv, ha⟩
      · rw [track_ne h] at z
        cases z
end
theorem walk_ofG {l : PySem.W.OpenLaw} {n k : Nat} {q : Program} {loose : List Str} {XP : (Str → Option Value) → Heap → Prop} {YP : World → Heap → Prop} {d : DefRec} {K : Params → PySem.W.Frag} {sp : World → Sp} {x : Str}
    (hn : l.most = some n) (hn2 : n ≤ sizeLine) (hdf : d.params.defaults = []) (hr : Room k callerA) (hY : ∀ (w : World) (h : Heap), YP w h → (K w.params).In h)
    (F : ∀ (w : World) (mg : Str → Option Value) (fa : Addr) (h : Heap), (K w.params).In h → h.Ns mainGlobals mg → mg d.name = some (.ref fa) →
      ∃ fd : FuncData, (∀ (s : Shared) (u : Value), BindsTo s fd ⟨[u], []⟩ [(x, u)]) ∧ ∀ base : Heap, (K w.params).In base → base.Ns mainGlobals mg → FnG l.prog w (K w.params) mg base k fa fd [x] (sp w))
    (hsp : ∀ (w : World) (H : Hp) (a : Addr) (ns : List Int), ns.length ≤ n → SqL (K w.params) H a (ns.map V.int) → sp w [.ref a] H (fun v _ => v = .bl true) E0) :
    PySem.W.WalkO q loose XP YP l.row.toRowW d [] (fun f vs => PySem.call f vs) := by
  apply Att.attach_call hn hdf
  intro w s₀ s₁ mg mb fa o pm cd doc a vs ns G Y _ _ _ hmg hobj hints hlen hg
  obtain ⟨fd, hb, hF⟩ := F w mg fa _ (hY w _ Y) G.T.g hmg
  exact law_callG (hY w _ Y) G.T.g G.T.b G.T.builtins G.T.nolimit hg hobj hints (Nat.le_trans hlen hn2) hr hF hb fun H hS => hsp w H a ns hlen hS
end Jf
set_option Elab.async false
set_option linter.all false
set_option maxRecDepth 100000
set_option maxHeartbeats 4000000
namespace Jf
open PySem PySem.Spec PyProof.Rows L2 Evl
/-! ### the end of a law whose def shows data, some defs of which hold generators (cs: their code objects, with the tables) -/
def trackT (cs : List (Addr × Addr)) (H : Hp) : Hp := fun b => if b ∈ cs.map (fun p => p.2) then some (.tbl #[]) else H b
theorem trackT_in {cs : List (Addr × Addr)} {H : Hp} {b : Addr} (h : b ∈ cs.map (fun p => p.2)) : trackT cs H b = some (.tbl #[]) := if_pos h
theorem trackT_out {cs : List (Addr × Addr)} {H : Hp} {b : Addr} (h : b ∉ cs.map (fun p => p.2)) : trackT cs H b = H b := if_neg h
structure AskedT (K : PySem.W.Frag) (cs : List (Addr × Addr)) (a : Addr) (ns : List Int) (H : Hp) : Prop where
  known : SqL K H a (ns.map V.int)
  tbl : ∀ b ∈ cs.map (fun p => p.2), H b = some (.tbl #[])
  only : ∀ b u, H b = some u → b ∈ cs.map (fun p => p.2) ∨ (b = a ∧ ∃ o xs, u = .frz o (.lst xs))
  free : ∀ b o, K.lookup b = some o → H b = none
section
variable {P : Program} {w : World} {K : PySem.W.Frag} {mg mb : Str → Option Value} {k : Nat} {fa a : Addr} {fd : FuncData} {x : Str} {sp : Sp} {s₁ : Shared} {vs : List Value} {ns : List Int} {cs : List (Addr × Addr)}
theorem go_lawT {H : Hp} (S : AskedT K cs a ns H) (hok : HOk P w H s₁.heap) (KX : K.In s₁.heap) (hns : s₁.heap.Ns mainGlobals mg) (hb : s₁.heap.Ns builtinsNs mb) (hbb : ∀ x : Str, x ≠ "__name__" → mb x = bootBuiltins x) (hlim : s₁.heap.NoLimit) (hg : s₁.gens = #[])
    (hT : ∀ p ∈ cs, s₁.heap.get? p.2 = some { cls := .none, data := .fields #[] }) (hC : ∀ p ∈ cs, PySem.W.CodeHd s₁.heap p.1 p.2)
    (hbm : ∃ (bm : Addr) (ob : Obj), mg "__builtins__" = some (.ref bm) ∧ bm ≠ builtinsNs ∧ s₁.heap.get? bm = some ob ∧ ob.cls = .type "module" ∧ ob.dict = some builtinsNs ∧ ob.data = .plain)
    (ha : s₁.heap.get? a = some { cls := .type "list", data := .seq vs.toArray }) (hr : Room k callerA)
    (F : ∀ base : Heap, K.In base → base.Ns mainGlobals mg → (∀ p ∈ cs, GxR.TabB base mg p.1 p.2) → FnG P w K mg base k fa fd [x] sp) (hbind : ∀ (s : Shared) (u : Value), BindsTo s fd ⟨[u], []⟩ [(x, u)])
    (hsp : sp [.ref a] H (fun v _ => v = .bl true) E0) :
    codeAny (model P w) callerA (.call (.ref fa) ⟨[.ref a], []⟩) (fun r s' => r = .ok (.ret (.bool true)) ∧ PySem.OldK s₁.heap s'.heap ∧ s'.os = s₁.os ∧ AllBare s'.gens) s₁ := by
  have atT : ∀ b ∈ cs.map (fun p => p.2), s₁.heap.get? b = some { cls := .none, data := .fields #[] } := by
    intro b h
    obtain ⟨p, hp, rfl⟩ := List.mem_map.mp h
    exact hT p hp
  -- what has other data isn't tracked
  have other : ∀ {b : Addr} {o : Obj}, s₁.heap.get? b = some o → o.data ≠ .fields #[] → (∀ us n, o.data ≠ .seq us n) → H b = none := by
    intro b o e n1 n2
    cases q : H b with
    | none => rfl
    | some u =>
      rcases S.only b u q with z | ⟨rfl, _⟩
      · rw [atT b z] at e
        cases e
        exact absurd rfl n1
      · rw [ha] at e
        cases e
        exact absurd rfl (n2 _ _)
  have base_ns : ∀ {b : Addr} {m : Str → Option Value}, s₁.heap.Ns b m → (hidT s₁.heap H).Ns b m := by
    rintro b m ⟨o, es, ep, e, d, r⟩
    exact ⟨o, es, ep, hidT_get e (other e (by rw [d]; exact fun z => nomatch z) fun us n z => by rw [d] at z; cases z), d, r⟩
  have hKb : K.In (hidT s₁.heap H) := fun b o e => hidT_get (KX b o e) (S.free b o e)
  have TB : ∀ p ∈ cs, GxR.TabB (hidT s₁.heap H) mg p.1 p.2 := by
    intro p hp
    have tp := hT p hp
    obtain ⟨o, us, file, tf, flags, tg, inF, text, tt, c1, c2, c3, c4, c5⟩ := hC p hp
    obtain ⟨bm, ob, b1, b2, b3, b4, b5, b6⟩ := hbm
    constructor
    · refine ⟨o, us, file, tf, flags, tg, inF, text, tt, hidT_get c1 (other c1 (fun z => ?_) fun us n z => ?_), c2, c3, c4, c5⟩
      · rw [c3] at z
        cases z
        simp at c4
      · rw [c3] at z
        cases z
    · refine ⟨bm, ob, b1, b2, fun z => ?_, fun z => ?_, hidT_get b3 (other b3 (by rw [b6]; exact fun z => nomatch z) fun us n z => by rw [b6] at z; cases z), b4, b5, b6⟩
      · obtain ⟨o2, es, ep, e, d, _⟩ := hns
        rw [z, e] at b3
        cases b3
        rw [d] at b6
        cases b6
      · rw [z, tp] at b3
        cases b3
        cases b6
    · intro z
      obtain ⟨o2, es, ep, e, d, _⟩ := hns
      rw [z, tp] at e
      cases e
      cases d
  obtain ⟨mc, l1, l2⟩ := hlim
  have e0 : Env0 P w K mg (hidT s₁.heap H) callerA [] s₁ H := by
    constructor
    · rfl
    · exact ⟨hKb, base_ns hns, ⟨mb, base_ns hb, hbb⟩, ⟨mc, base_ns l1, l2⟩⟩
    · exact fun b o e => of_hidT e
    · exact Nat.le_of_eq (hidT_size _ _)
    · trivial
    · intro b hb
      exact absurd (show b ∈ ([] : List Addr) from hb) (by simp)
    · exact hok
    · exact .of_eq hg
  apply codeAny_mono ((F _ hKb (base_ns hns) TB).go callerA [] s₁ H ⟨[.ref a], []⟩ [.ref a] [.ref a] _ rfl hr e0 (hbind s₁ (.ref a)) (.cons rfl .nil) hsp)
  intro r s' h
  match r, h with
  | .error _, h => exact False.elim h
  | .ok (.ret u), ⟨v, H', os, bare, un, hok', r', q⟩ =>
    subst q
    obtain rfl : u = Value.bool true := r'
    have same : ∀ b o, b ∉ cs.map (fun p => p.2) → s₁.heap.get? b = some o → s'.heap.get? b = some o := by
      intro b o nb e
      cases q : H b with
      | none => exact un.keep b o e q (by intro z; exact absurd (show b ∈ ([] : List Addr) from z) (by simp)) (by simp)
      | some u =>
        rcases S.only b u q with z | ⟨rfl, ob, xs, rfl⟩
        · exact absurd z nb
        · have q2 := un.frzs b ob _ q
          have e1 := (hok b _ q).1
          have e2 := (hok' b _ q2).1
          rw [e] at e1
          cases e1
          exact e2
    have more : ∀ b ∈ cs.map (fun p => p.2), ∃ m : Array Value, s'.heap.get? b = some { cls := .none, data := .fields m } := by
      intro b h
      obtain ⟨m, z⟩ := un.tbls b #[] (S.tbl b h)
      exact ⟨_, hok' b _ z⟩
    refine ⟨rfl, ⟨fun b o e => ?_, fun b o e => ?_⟩, os, bare⟩
    · by_cases h : b ∈ cs.map (fun p => p.2)
      · obtain ⟨m, z⟩ := more b h
        obtain ⟨p, hp, rfl⟩ := List.mem_map.mp h
        rw [hT p hp] at e
        cases e
        exact .inr (.inl ⟨((hC p hp).tab (hT p hp)).isCodeTable, rfl, #[], m, rfl, by rw [Array.empty_append]; exact z⟩)
      · exact .inl (same b o h e)
    · by_cases h : b ∈ cs.map (fun p => p.2)
      · obtain ⟨m, z⟩ := more b h
        exact ⟨_, z⟩
      · exact ⟨o, same b o h e⟩
theorem law_callGT (KX : K.In s₁.heap) (hns : s₁.heap.Ns mainGlobals mg) (hb : s₁.heap.Ns builtinsNs mb) (hbb : ∀ x : Str, x ≠ "__name__" → mb x = bootBuiltins x) (hlim : s₁.heap.NoLimit) (hg : s₁.gens = #[])
    (hT : ∀ p ∈ cs, s₁.heap.get? p.2 = some { cls := .none, data := .fields #[] }) (nT : ∀ p ∈ cs, K.lookup p.2 = none) (hC : ∀ p ∈ cs, PySem.W.CodeHd s₁.heap p.1 p.2)
    (hbm : ∃ (bm : Addr) (ob : Obj), mg "__builtins__" = some (.ref bm) ∧ bm ≠ builtinsNs ∧ s₁.heap.get? bm = some ob ∧ ob.cls = .type "module" ∧ ob.dict = some builtinsNs ∧ ob.data = .plain)
    (ha : s₁.heap.get? a = some { cls := .type "list", data := .seq vs.toArray }) (hi : IntsAre vs ns) (hl : ns.length ≤ sizeLine) (hr : Room k callerA)
    (F : ∀ base : Heap, K.In base → base.Ns mainGlobals mg → (∀ p ∈ cs, GxR.TabB base mg p.1 p.2) → FnG P w K mg base k fa fd [x] sp) (hbind : ∀ (s : Shared) (u : Value), BindsTo s fd ⟨[u], []⟩ [(x, u)])
    (hsp : ∀ H : Hp, (∀ p ∈ cs, H p.2 = some (.tbl #[])) → SqL K H a (ns.map V.int) → sp [.ref a] H (fun v _ => v = .bl true) E0) :
    codeAny (model P w) callerA (.call (.ref fa) ⟨[.ref a], []⟩) (fun r s' => r = .ok (.ret (.bool true)) ∧ PySem.OldK s₁.heap s'.heap ∧ s'.os = s₁.os ∧ AllBare s'.gens) s₁ := by
  have rv := vals_ints hi
  have atT : ∀ b ∈ cs.map (fun p => p.2), s₁.heap.get? b = some { cls := .none, data := .fields #[] } := by
    intro b h
    obtain ⟨p, hp, rfl⟩ := List.mem_map.mp h
    exact hT p hp
  have nK : ∀ b ∈ cs.map (fun p => p.2), K.lookup b = none := by
    intro b h
    obtain ⟨p, hp, rfl⟩ := List.mem_map.mp h
    exact nT p hp
  have na : a ∉ cs.map (fun p => p.2) := fun z => by
    have q := atT a z
    rw [ha] at q
    cases q
  have inT : ∀ p ∈ cs, p.2 ∈ cs.map (fun p => p.2) := fun p hp => List.mem_map.mpr ⟨p, hp, rfl⟩
  cases hk : K.lookup a with
  | some o =>
    have e := KX a o hk
    rw [ha] at e
    cases e
    have known : SqL K (trackT cs fun _ => none) a (ns.map V.int) := .inr ⟨_, vs.toArray, _, hk, rfl, rfl, rfl, by rw [List.size_toArray, hi.length]; exact hl, by simpa using rv⟩
    refine go_lawT (H := trackT cs fun _ => none) ⟨known, fun b h => trackT_in h, fun b u z => ?_, fun b o z => ?_⟩ (fun b u z => ?_) KX hns hb hbb hlim hg hT hC hbm ha hr F hbind (hsp _ (fun p hp => trackT_in (inT p hp)) known)
    · by_cases h : b ∈ cs.map (fun p => p.2)
      · exact .inl h
      · rw [trackT_out h] at z
        cases z
    · exact trackT_out fun h => by rw [nK b h] at z; cases z
    · by_cases h : b ∈ cs.map (fun p => p.2)
      · rw [trackT_in h] at z
        cases z
        exact atT b h
      · rw [trackT_out h] at z
        cases z
  | none =>
    have at_a : trackT cs (track a vs ns) a = some (.frz { cls := .type "list", data := .seq vs.toArray } (.lst (ns.map V.int))) := (trackT_out na).trans track_at
    have known : SqL K (trackT cs (track a vs ns)) a (ns.map V.int) := .inl (.inr ⟨_, at_a⟩)
    refine go_lawT (H := trackT cs (track a vs ns)) ⟨known, fun b h => trackT_in h, fun b u z => ?_, fun b o z => ?_⟩ (fun b u z => ?_) KX hns hb hbb hlim hg hT hC hbm ha hr F hbind (hsp _ (fun p hp => trackT_in (inT p hp)) known)
    · by_cases h : b ∈ cs.map (fun p => p.2)
      · exact .inl h
      · rw [trackT_out h] at z
        by_cases h2 : b = a
        · subst h2
          rw [track_at] at z
          cases z
          exact .inr ⟨rfl, _, _, rfl⟩
        · rw [track_ne h2] at z
          cases z
    · refine (trackT_out fun h => ?_).trans (track_ne ?_)
      · rw [nK b h] at z
        cases z
      · rintro rfl
        rw [hk] at z
        cases z
    · by_cases h : b ∈ cs.map (fun p => p.2)
      · rw [trackT_in h] at z
        cases z
        exact atT b h
      · rw [trackT_out h] at z
        by_cases h2 : b = a
        · subst h2
          rw [track_at] at z
          cases z
          exact ⟨ha, by rw [List.length_map]; exact hl, vs, _, rv, ha⟩
        · rw [track_ne h2] at z
          cases z
end
/-- the table of code objects of the def y, as the top leaves it: empty -/
def TabE (K : PySem.W.Frag) (y : Str) (mg : Str → Option Value) (h : Heap) : Prop := ∀ (f c T : Addr) (o : Obj) (fd : FuncData) (e : Value) (dd : Option Addr) (us : Array Value) (sl : Array (Option Value)),
  mg y = some (.ref f) → K.lookup f = some o → o.data = .func fd → fd.code = .ref c → K.lookup c = some ⟨e, dd, .fields us, sl⟩ → us[11]? = some (.ref T) → h.get? T = some { cls := .none, data := .fields #[] }
theorem walk_ofGT {l : PySem.W.OpenLaw} {n k : Nat} {q : Program} {loose : List Str} {XP : (Str → Option Value) → Heap → Prop} {YP : World → Heap → Prop} {d : DefRec} {K : Params → PySem.W.Frag} {sp : World → Sp} {x y : Str}
    (hn : l.most = some n) (hn2 : n ≤ sizeLine) (hdf : d.params.defaults = []) (hr : Room k callerA) (hrec : ((recsOf q).any fun e => e.name == y) = true) (hY : ∀ (w : World) (h : Heap), YP w h → (K w.params).In h)
    (F : ∀ (w : World) (mg : Str → Option Value) (fa : Addr) (h : Heap), (K w.params).In h → h.Ns mainGlobals mg → mg d.name = some (.ref fa) → TabE (K w.params) y mg h →
      ∃ (fd : FuncData) (cs : List (Addr × Addr)), (∀ p ∈ cs, h.get? p.2 = some { cls := .none, data := .fields #[] }) ∧ (∀ p ∈ cs, (K w.params).lookup p.2 = none) ∧ (∀ p ∈ cs, PySem.W.CodeHd h p.1 p.2) ∧ (∀ (s : Shared) (u : Value), BindsTo s fd ⟨[u], []⟩ [(x, u)]) ∧
        (∀ (H : Hp) (a : Addr) (ns : List Int), ns.length ≤ n → (∀ p ∈ cs, H p.2 = some (.tbl #[])) → SqL (K w.params) H a (ns.map V.int) → sp w [.ref a] H (fun v _ => v = .bl true) E0) ∧
        ∀ base : Heap, (K w.params).In base → base.Ns mainGlobals mg → (∀ p ∈ cs, GxR.TabB base mg p.1 p.2) → FnG l.prog w (K w.params) mg base k fa fd [x] (sp w)) :
    PySem.W.WalkO q loose XP YP l.row.toRowW d [] (fun f vs => PySem.call f vs) := by
  apply Att.attach_call hn hdf
  intro w s₀ s₁ mg mb fa o pm cd doc a vs ns G Y _ _ _ hmg hobj hints hlen hg
  have KX := hY w _ Y
  have empty : TabE (K w.params) y mg s₁.heap := by
    intro f c T o1 fd1 e dd us sl k0 k1 k2 k3 k4 k5
    obtain ⟨dL, mem, nm⟩ := List.any_eq_true.mp hrec
    obtain ⟨a2, o2, fd2, c2, T2, h1, h2, h3, h4, _, ⟨oc, vc, t1, _, t3, t4⟩, hT⟩ := G.T.tab dL mem
    rw [beq_iff_eq.mp nm, k0] at h1
    cases h1
    rw [KX _ _ k1] at h2
    cases h2
    rw [k2] at h3
    cases h3
    rw [k3] at h4
    cases h4
    rw [KX _ _ k4] at t1
    cases t1
    cases t3
    rw [k5] at t4
    cases t4
    exact hT
  obtain ⟨fd, cs, hT, nT, hC, hb, hsp, hF⟩ := F w mg fa _ KX G.T.g hmg empty
  exact law_callGT KX G.T.g G.T.b G.T.builtins G.T.nolimit hg hT nT hC G.T.bmain hobj hints (Nat.le_trans hlen hn2) hr hF hb fun H hH hS => hsp H a ns hlen hH hS
theorem walk_ofGK {l : PySem.W.OpenLaw} {n k : Nat} {q : Program} {loose : List Str} {XP : (Str → Option Value) → Heap → Prop} {YP : World → Heap → Prop} {d : DefRec} {K : Params → PySem.W.Frag} {sp : PySem.W.Frag → Addr → Sp} {PA : Addr} {x y : Str}
    (hn : l.most = some n) (hn2 : n ≤ sizeLine) (hdf : d.params.defaults = []) (hr : Room k callerA) (hrec : ((recsOf q).any fun e => e.name == y) = true) (hY : ∀ (w : World) (h : Heap), YP w h → (K w.params).In h)
    (F : ∀ (w : World) (mg : Str → Option Value) (fa : Addr) (h : Heap), (K w.params).In h → h.Ns mainGlobals mg → mg d.name = some (.ref fa) → TabE (K w.params) y mg h →
      ∃ (fd : FuncData) (cs : List (Addr × Addr)), (∀ p ∈ cs, h.get? p.2 = some { cls := .none, data := .fields #[] }) ∧ (∀ p ∈ cs, (K w.params).lookup p.2 = none) ∧ (∀ p ∈ cs, PySem.W.CodeHd h p.1 p.2) ∧ (∀ (s : Shared) (u : Value), BindsTo s fd ⟨[u], []⟩ [(x, u)]) ∧
        (∀ (H : Hp) (a : Addr) (ns : List Int), ns.length ≤ n → (∀ p ∈ cs, H p.2 = some (.tbl #[])) → SqL (K w.params) H a (ns.map V.int) → sp (K w.params) PA [.ref a] H (fun v _ => v = .bl true) E0) ∧
        ∀ base : Heap, (K w.params).In base → base.Ns mainGlobals mg → (∀ p ∈ cs, GxR.TabB base mg p.1 p.2) → FnG l.prog w (K w.params) mg base k fa fd [x] (sp (K w.params) PA)) :
    PySem.W.WalkO q loose XP YP l.row.toRowW d [] (fun f vs => PySem.call f vs) :=
  walk_ofGT (sp := fun w => sp (K w.params) PA) hn hn2 hdf hr hrec hY F
theorem walk_ofGL {l : PySem.W.OpenLaw} {n k : Nat} {q : Program} {loose : List Str} {XP : (Str → Option Value) → Heap → Prop} {YP : World → Heap → Prop} {d : DefRec} {K : Params → PySem.W.Frag} {sp : PySem.W.Frag → List Addr → Sp} {PA : List Addr} {x : Str} {ys : List Str}
    (hn : l.most = some n) (hn2 : n ≤ sizeLine) (hdf : d.params.defaults = []) (hr : Room k callerA) (hrec : (ys.all fun y => (recsOf q).any fun e => e.name == y) = true) (hY : ∀ (w : World) (h : Heap), YP w h → (K w.params).In h)
    (F : ∀ (w : World) (mg : Str → Option Value) (fa : Addr) (h : Heap), (K w.params).In h → h.Ns mainGlobals mg → mg d.name = some (.ref fa) → (∀ y ∈ ys, TabE (K w.params) y mg h) →
      ∃ (fd : FuncData) (cs : List (Addr × Addr)), (∀ p ∈ cs, h.get? p.2 = some { cls := .none, data := .fields #[] }) ∧ (∀ p ∈ cs, (K w.params).lookup p.2 = none) ∧ (∀ p ∈ cs, PySem.W.CodeHd h p.1 p.2) ∧ (∀ (s : Shared) (u : Value), BindsTo s fd ⟨[u], []⟩ [(x, u)]) ∧
        (∀ (H : Hp) (a : Addr) (ns : List Int), ns.length ≤ n → (∀ p ∈ cs, H p.2 = some (.tbl #[])) → SqL (K w.params) H a (ns.map V.int) → sp (K w.params) PA [.ref a] H (fun v _ => v = .bl true) E0) ∧
        ∀ base : Heap, (K w.params).In base → base.Ns mainGlobals mg → (∀ p ∈ cs, GxR.TabB base mg p.1 p.2) → FnG l.prog w (K w.params) mg base k fa fd [x] (sp (K w.params) PA)) :
    PySem.W.WalkO q loose XP YP l.row.toRowW d [] (fun f vs => PySem.call f vs) := by
  apply Att.attach_call hn hdf
  intro w s₀ s₁ mg mb fa o pm cd doc a vs ns G Y _ _ _ hmg hobj hints hlen hg
  have KX := hY w _ Y
  have empty : ∀ y ∈ ys, TabE (K w.params) y mg s₁.heap := by
    intro y hy f c T o1 fd1 e dd us sl k0 k1 k2 k3 k4 k5
    obtain ⟨dL, mem, nm⟩ := List.any_eq_true.mp (List.all_eq_true.mp hrec y hy)
    obtain ⟨a2, o2, fd2, c2, T2, h1, h2, h3, h4, _, ⟨oc, vc, t1, _, t3, t4⟩, hT⟩ := G.T.tab dL mem
    rw [beq_iff_eq.mp nm, k0] at h1
    cases h1
    rw [KX _ _ k1] at h2
    cases h2
    rw [k2] at h3
    cases h3
    rw [k3] at h4
    cases h4
    rw [KX _ _ k4] at t1
    cases t1
    cases t3
    rw [k5] at t4
    cases t4
    exact hT
  obtain ⟨fd, cs, hT, nT, hC, hb, hsp, hF⟩ := F w mg fa _ KX G.T.g hmg empty
  exact law_callGT KX G.T.g G.T.b G.T.builtins G.T.nolimit hg hT nT hC G.T.bmain hobj hints (Nat.le_trans hlen hn2) hr hF hb fun H hH hS => hsp H a ns hlen hH hS
end Jf
set_option Elab.async false
set_option linter.all false
set_option maxRecDepth 100000
set_option maxHeartbeats 4000000
namespace Jf
open PySem PySem.Spec PyProof.Rows L2 Evl
/-! ### sum of a generator over a list of pairs of ints, with one captured int -/
/-- the generator's own scope: two names, one captured -/
structure GenT (scope : Scope) (xa xb xc : Str) : Prop where
  kind : scope.kind = .function
  co : scope.isCoroutine = false
  cell : ∀ y ∈ scope.names, y.2 ≠ .cell
  dot : scope.names.lookup (".0" : Str) = some NameKind.local
  la : scope.names.lookup xa = some .local
  lb : scope.names.lookup xb = some .local
  lc : scope.names.lookup xc = some .free
  ne : xa ≠ xb
  only : ∀ y ∈ scope.names, y.2 = .free → y.1 = xc
  clo : ∀ cells : List (Str × Addr), (cloFrom cells scope.names []).lookup xc = some ((cells.lookup xc).getD 0)
/-- the element: an int of the two and the captured one -/
def EltT (prog : Program) (w : World) (scope : Scope) (xa xb xc : Str) (elt : Expr) (ok : Int → Int → Int → Prop) (g : Int → Int → Int → Int) : Prop :=
  ∀ (cenv : Env) (B : Around) (E : Value → Shared → Prop) (a b d : Int) (ta tb td : Tok) (c : Addr) (s : Shared) (m : Str → Option Value), cenv.scope = scope → ok a b d → s.heap.Ns cenv.locals m → m xa = some (.int a ta) → m xb = some (.int b tb) →
    cenv.cells.lookup xc = some c → s.heap.IsCell c (some (.int d td)) → wpAny (model prog w) B (eval elt cenv) (fun y s1 => (∃ t, y = .int (g a b d) t) ∧ Keeps s s1) E s
abbrev Prs := List (Addr × Int × Int)
def valP (ps : Prs) (d : Int) (g : Int → Int → Int → Int) (j : Nat) : Int := match ps[j]? with
  | some p => g p.2.1 p.2.2 d
  | none => 0
theorem valP_some {ps : Prs} {d : Int} {g : Int → Int → Int → Int} {j : Nat} {p : Addr × Int × Int} (h : ps[j]? = some p) : valP ps d g j = g p.2.1 p.2.2 d := by
  unfold valP
  rw [h]
def sumP (ps : Prs) (d : Int) (g : Int → Int → Int → Int) : Int := (ps.map fun p => g p.2.1 p.2.2 d).sum
theorem preSum_sumP (ps : Prs) (d : Int) (g : Int → Int → Int → Int) : preSum (valP ps d g) ps.length = sumP ps d g := by
  have step : ∀ n, n ≤ ps.length → preSum (valP ps d g) n = sumP (ps.take n) d g := by
    intro n
    induction n with
    | zero => intro _; rfl
    | succ n ih =>
      intro h
      have hn : n < ps.length := h
      have e := List.getElem?_eq_getElem hn
      show preSum (valP ps d g) n + valP ps d g n = _
      rw [ih (Nat.le_of_lt hn), valP_some e, List.take_succ, e]
      unfold sumP
      simp only [Option.toList_some, List.map_append, List.sum_append, List.map_cons, List.map_nil, List.sum_cons, List.sum_nil, Int.add_zero]
  rw [step _ (Nat.le_refl _), List.take_length]
section
variable {X : Cx} {pins : List (Addr × Obj)} {σ : L2.St} {H : Hp} {s : Shared}
/-- the generator's code: found in the def's table, or put there -/
theorem gcode {env : Env} {scope : Scope} {gpos : Pos} {nm : Str} {c P : Addr} {tb : Array Value} {s2 : Shared} {prog : Program} {w : World} {A : Around} {E : Value → Shared → Prop} {Ψ : Value → Shared → Prop} (hcode : env.code = .ref c)
    (cd : PySem.W.CodeHd s2.heap c P) (hP : s2.heap.get? P = some { cls := .none, data := .fields tb }) (ht : TriplesOk tb.toList)
    (rest : ∀ (code : Value) (h3 : Heap) (n3 : Nat) (tb3 : Array Value), Heap.ExtBut P s2.heap h3 → s2.heap.objs.size ≤ h3.objs.size → h3.get? P = some { cls := .none, data := .fields tb3 } → (∃ more, tb3 = tb ++ more) → TriplesOk tb3.toList → Ψ code { s2 with heap := h3, toks := n3 }) :
    wpAny (model prog w) A (genexprCode env gpos nm scope) Ψ E s2 := by
  cases found : codeAmong gpos tb.toList with
  | some cv =>
    apply wpAny_genexprCode_hit hcode (cd.code hP ht) found
    exact rest cv s2.heap s2.toks tb (Heap.ExtBut.refl _ _) (Nat.le_refl _) hP ⟨#[], by simp⟩ ht
  | none =>
    apply wpAny_genexprCodeX hcode (cd.code hP ht) (cd.tab hP) found
    intro c' h' n' hx ge lt co _ tab _
    obtain ⟨_, _, _, _, _, _, _, _, _, _, _, _, _, _, _, _, _, _, _, tr, _⟩ := co
    exact rest _ h' n' _ hx (Nat.le_trans ge (Nat.le_of_lt lt)) tab.2 ⟨_, rfl⟩ tr
/-- ready to be walked -/
def ReadyP (X : Cx) (pins : List (Addr × Obj)) (σ : L2.St) (H1 : Hp) (P : Addr) (ps : Prs) (d : Int) (g : Int → Int → Int → Int) (a : Addr) (s5 : Shared) : Prop :=
  ∃ (fp wr : List Addr) (G : Array GenState → Array GenState → Prop) (F : Nat → Value → Prop) (St : Nat → Shared → Prop),
    WalksS X.prog X.w X.A.in1 a fp wr G ps.length F St ∧ St 0 s5 ∧ (∀ b ∈ fp, b < s5.heap.objs.size) ∧ (∀ j v, F j v → ∃ t, v = .int (valP ps d g j) t) ∧ ∀ s', Moved wr G s5 s' → ∃ H2, GxR.Tabbed P H1 H2 ∧ Inv X pins σ H2 s'
/-- what the walked list holds -/
def PrsAt (K : PySem.W.Frag) (H : Hp) (yl : Addr) (ps : Prs) : Prop := SqL K H yl (ps.map fun p => V.ref p.1) ∧ ∀ p ∈ ps, SqT K H p.1 [.int p.2.1, .int p.2.2]
theorem gen_prs {c P : Addr} {elt iter : Expr} {xa xb xc : Str} {pa pb pt gpos : Pos} {kt ic k : Nat} {scope : Scope} {ok : Int → Int → Int → Prop} {g : Int → Int → Int → Int} {te : TE} {Q' : Value → Shared → Prop} {R : Prs → Int → Hp → Prop}
    (hr : Room k X.A) (TB : GxR.TabB X.base X.mg c P) (hcode : X.env.code = .ref c) (S : GenT scope xa xb xc) (hN : X.N[ic]? = some xc) (hk : X.env.kindOf xc = some .cell) (hi : PE X iter te) (hel : EltT X.prog X.w scope xa xb xc elt ok g)
    (hs : ∀ v, genFold iter X.env v = pure v) (I : Inv X pins σ H s)
    (h : te σ H fun v H1 => ∃ (yl : Addr) (ps : Prs) (d : Int), v = .ref yl ∧ PrsAt X.K H1 yl ps ∧ (∀ p ∈ ps, ok p.2.1 p.2.2 d) ∧ σ[ic]? = some (some (.int d)) ∧ GxR.TabG H1 P ∧ R ps d H1)
    (hQ : ∀ ps d H1 a s5, R ps d H1 → ReadyP X pins σ H1 P ps d g a s5 → Q' (.ref a) s5) :
    wpAny (model X.prog X.w) X.A (eval (.GeneratorExp elt [⟨.Tuple [.Name xa pa, .Name xb pb] kt pt, iter, [], 0⟩] scope gpos) X.env) Q' X.xe s := by
  obtain ⟨cc, hcc⟩ := I.ok.has xc (.inl hk)
  have hfree : ∀ y ∈ scope.names, y.2 = .free → ∃ c, X.env.cells.lookup y.1 = some c := fun y hy hf => ⟨cc, by rw [S.only y hy hf]; exact hcc⟩
  have hclo : (cloFrom X.env.cells scope.names []).lookup xc = some cc := by rw [S.clo, hcc]; rfl
  apply wpAny_GeneratorExp_walksQT hr.hd S.co (closure_ok hfree) S.cell S.dot S.la S.lb S.ne S.kind (by have := hr.dp; omega) (hs := hs)
  apply thn (hi.run pins s σ H _ I h)
  rintro xv s1 ⟨v, H1, I1, r1, yl, ps, d, rfl, ⟨hyl, hT⟩, hok, hd, ⟨tb, hP, ht⟩, q1⟩
  obtain rfl : xv = Value.ref yl := r1
  obtain ⟨its, rv, pl, hz⟩ := I1.list hyl
  have lst := pl.isList
  have nits : its.length = ps.length := by rw [← rv.length, List.length_map]
  have iat : ∀ (j : Nat) (p : Addr × Int × Int), ps[j]? = some p → its[j]? = some (Value.ref p.1) := by
    intro j p hp
    have e : (ps.map fun (p : Addr × Int × Int) => V.ref p.1)[j]? = some (V.ref p.1) := by rw [List.getElem?_map, hp]; rfl
    obtain ⟨u, hu, ru⟩ := rv.get e
    cases (show u = Value.ref p.1 from ru)
    exact hu
  have tup : ∀ j : Nat, ∃ uv : Tok × Tok, ∀ p : Addr × Int × Int, ps[j]? = some p → s1.heap.IsTuple p.1 #[.int p.2.1 uv.1, .int p.2.2 uv.2] := by
    intro j
    cases hj : ps[j]? with
    | none => exact ⟨(0, 0), fun p z => nomatch z⟩
    | some p =>
      obtain ⟨ts, tv, ⟨o, e1, e2, n, e3⟩, _⟩ := I1.tuple (hT p (List.mem_of_getElem? hj))
      cases tv with
      | cons ra rb =>
        cases rb with
        | cons rb rc =>
          cases rc
          obtain ⟨u, rfl⟩ := _root_.id ra
          obtain ⟨v, rfl⟩ := _root_.id rb
          refine ⟨(u, v), fun q z => ?_⟩
          cases z
          exact ⟨o, e1, e2, n, e3⟩
  obtain ⟨tk, htk⟩ := Classical.skolem.mp tup
  obtain ⟨uc, td, huc⟩ : ∃ (uc : Value) (td : Tok), uc = .int d td ∧ s1.heap.IsCell cc (some uc) := by
    obtain ⟨m, _, hm⟩ := I1.loc
    obtain ⟨u, ru, lk⟩ := hm ic xc (.int d) hN hd (.inr (.inl hk))
    obtain ⟨td, rfl⟩ := _root_.id ru
    rcases lk with ⟨z, _⟩ | ⟨_, c2, e2, hc2⟩
    · rw [hk] at z
      cases z
    · rw [hcc] at e2
      cases e2
      exact ⟨_, td, rfl, hc2⟩
  obtain ⟨rfl, hcell⟩ := huc
  let Ts : Nat → Addr := fun j => ((ps[j]?).map fun (p : Addr × Int × Int) => p.1).getD 0
  let vs : Nat → Array Value := fun j => ((ps[j]?).map fun (p : Addr × Int × Int) => (#[.int p.2.1 (tk j).1, .int p.2.2 (tk j).2] : Array Value)).getD #[.none, .none]
  have pat : ∀ j, j < its.toArray.size → ∃ p : Addr × Int × Int, ps[j]? = some p := fun j hj => by
    have : j < ps.length := by simpa [nits] using hj
    exact ⟨ps[j], List.getElem?_eq_getElem this⟩
  have tsT : ∀ j, j < its.toArray.size → s1.heap.IsTuple (Ts j) (vs j) := fun j hj => by
    obtain ⟨p, e⟩ := pat j hj
    have := htk j p e
    simpa only [Ts, vs, e, Option.map_some, Option.getD_some] using this
  have tlt : ∀ j, j < its.toArray.size → Ts j < s1.heap.objs.size := fun j hj => by
    obtain ⟨_, e, _⟩ := tsT j hj
    exact Heap.lt_size e
  have hit : ∀ j, j < its.toArray.size → its.toArray[j]? = some (.ref (Ts j)) := fun j hj => by
    obtain ⟨p, e⟩ := pat j hj
    have := iat j p e
    simpa only [Ts, e, Option.map_some, Option.getD_some, List.getElem?_toArray] using this
  have ylt : yl < s1.heap.objs.size := by
    obtain ⟨_, e, _⟩ := _root_.id lst
    exact Heap.lt_size e
  have WW := fun (B : Around) (hB : B.handled = none) => (WalksU.listOfTuples (prog := X.prog) (w := X.w) hB s1.heap.objs.size yl (Nat.ne_of_lt ylt) its.toArray Ts vs hit fun j hj => Nat.ne_of_lt (tlt j hj)).bound
  apply wpAny_pyIter_list lst
  generalize ho : ({ cls := .type "list_iterator", data := .fields #[.ref yl, .int 0 0] } : Obj) = it0
  have iter0 : (s1.heap.push it0).IsListIter s1.heap.objs.size yl 0 := by
    subst ho
    exact ⟨_, Heap.get?_push_size _ rfl, rfl, rfl⟩
  have old : ∀ b u, s1.heap.get? b = some u → (s1.heap.push it0).get? b = some u := fun b u e => Heap.get?_push_of_some _ e
  have tabS : s1.heap.get? P = some { cls := .none, data := .fields tb } := I1.hok P _ hP
  have Plt : P < s1.heap.objs.size := Heap.lt_size tabS
  have lim2 : (s1.heap.push it0).NoLimit := I1.nolimit.push it0
  refine ⟨lim2, ?_⟩
  refine gcode (s2 := { s1 with heap := s1.heap.push it0 }) hcode (TB.code.keeps fun b u e => old b u (I1.bk b u e)) (old _ _ tabS) ht fun code h3 n3 tb3 hx hsz hP3 hmore ht3 => ?_
  obtain ⟨bm, ob, e1, e2, e3, e4, e5, e6, e7, e8⟩ := TB.bm
  have keep3 : ∀ b u, b ≠ P → s1.heap.get? b = some u → h3.get? b = some u := fun b u hb e => hx b u hb (old b u e)
  have sz3 : s1.heap.objs.size < h3.objs.size := by
    have e : (s1.heap.push it0).objs.size = s1.heap.objs.size + 1 := Heap.size_push ..
    have hsz' : (s1.heap.push it0).objs.size ≤ h3.objs.size := hsz
    omega
  have cP : cStatics ≠ P := fun e => by
    obtain ⟨_, hns, _⟩ := I1.nolimit
    obtain ⟨o', es, ep, ho', hd', _⟩ := hns
    rw [e, tabS] at ho'
    cases ho'
    cases hd'
  have clt : cStatics < s1.heap.objs.size := by
    obtain ⟨_, hns, _⟩ := I1.nolimit
    exact hns.lt
  apply wpAny_builtinsFor (m := X.mg) (by rw [I1.ok.glob]; exact ((I1.mod.glob.keeps I1.bk).push it0).extBut hx TB.gP) e1 e2 (keep3 _ _ e4 (I1.bk _ _ e5)) e6 e7 e8
  have yP : yl ≠ P := fun z => by
    obtain ⟨_, e, hc1, _, hd1⟩ := _root_.id lst
    rw [z, tabS] at e
    cases e
    cases hd1
  have tP : ∀ j, j < its.toArray.size → Ts j ≠ P := fun j hj z => by
    obtain ⟨_, e, hc1, _⟩ := tsT j hj
    rw [z, tabS] at e
    cases e
    cases hc1
  have ccP : cc ≠ P := fun z => by
    obtain ⟨o, e, hc1⟩ := _root_.id hcell
    rw [z, tabS] at e
    cases e
    cases hc1
  have cclt : cc < s1.heap.objs.size := by
    obtain ⟨o, e, _⟩ := _root_.id hcell
    exact Heap.lt_size e
  have lst3 : h3.IsList yl its.toArray := by
    obtain ⟨ob, e, r⟩ := _root_.id lst
    exact ⟨ob, keep3 _ _ yP e, r⟩
  have iter3 : h3.IsListIter s1.heap.objs.size yl 0 := iter0.at fun u e => hx _ u (Nat.ne_of_gt Plt) e
  have ts3 : ∀ j, j < its.toArray.size → h3.IsTuple (Ts j) (vs j) := fun j hj => (tsT j hj).at fun o e => keep3 _ _ (tP j hj) e
  have cell3 : h3.IsCell cc (some (.int d td)) := by
    obtain ⟨o, e, r⟩ := _root_.id hcell
    exact ⟨o, keep3 _ _ ccP e, r⟩
  refine ⟨s1.heap.objs.size, _, _, _, _, _, _, (fun _ => true), (fun i y => ∃ (p : Addr × Int × Int) (t : Tok), ps[i]? = some p ∧ y = .int (g p.2.1 p.2.2 d) t), rfl, WW, ?_, ⟨iter3, lst3, ts3⟩, ?_, lim2.extBut hx cP, ?_, ?_, ?_⟩
  · rintro i v ⟨hi, rfl⟩
    obtain ⟨p, e⟩ := pat i hi
    exact ⟨.int p.2.1 (tk i).1, .int p.2.2 (tk i).2, by simp only [vs, e, Option.map_some, Option.getD_some]⟩
  · intro b hb
    show b < h3.objs.size
    rcases List.mem_cons.mp hb with rfl | hb
    · exact sz3
    · rcases List.mem_cons.mp hb with rfl | hb
      · exact Nat.lt_trans ylt sz3
      · obtain ⟨j, hj, rfl⟩ := List.mem_map.mp hb
        exact Nat.lt_trans (tlt j (List.mem_range.mp hj)) sz3
  · intro z
    rcases List.mem_cons.mp z with z | z
    · exact Nat.ne_of_lt clt z
    · cases z
  · intro href hhref
    refine ⟨fun B E' i va vb s₂ m₂ hB hPv hn ha hb hk => ?_, fun B E' i va vb s₂ m₂ hB hPv hp hn ha hb hk => ?_⟩
    · simp only [List.forIn_nil]
      exact wpAny_pure ⟨rfl, GxR.keeps_refl _⟩
    · obtain ⟨hi, ev⟩ := hPv
      obtain ⟨p, e⟩ := pat i hi
      simp only [vs, e, Option.map_some, Option.getD_some] at ev
      obtain ⟨rfl, rfl⟩ : va = .int p.2.1 (tk i).1 ∧ vb = .int p.2.2 (tk i).2 := by simpa using congrArg Array.toList ev
      have c2 : s₂.heap.IsCell cc (some (.int d td)) := by
        obtain ⟨o, e9, r⟩ := _root_.id cell3
        refine ⟨o, hk cc ?_ ?_ o (hhref _ _ e9), r⟩
        · exact List.mem_range.mpr (Nat.lt_trans cclt sz3)
        · intro z
          rcases List.mem_cons.mp z with z | z
          · exact Nat.ne_of_lt cclt z
          · cases z
      exact wpAny_mono (hel _ B E' p.2.1 p.2.2 d _ _ td cc s₂ m₂ rfl (hok p (List.mem_of_getElem? e)) hn ha hb hclo c2) (fun y s3 r => ⟨⟨p, r.1.choose, e, r.1.choose_spec⟩, r.2⟩) fun _ _ e => e
  · intro a h5 n5 gs bare gt hsz5 hk5 W5 at5
    simp only [GxR.passing_true, List.length_range] at W5
    have nI : its.toArray.size = ps.length := by rw [List.size_toArray, nits]
    rw [nI] at W5 at5
    refine hQ ps d H1 a _ q1 ⟨_, _, _, _, _, W5.in4_1, at5, ?_, fun j v hv => ?_, fun s' mv => ?_⟩
    · intro b hb
      show b < h5.objs.size
      have e5 : h5.objs.size = a + 1 := hsz5
      have e3 : h3.objs.size < a := gt
      rw [e5]
      rcases List.mem_cons.mp hb with rfl | hb
      · exact Nat.lt_succ_self _
      · rcases List.mem_cons.mp hb with rfl | hb
        · exact Nat.lt_succ_of_lt e3
        · exact Nat.lt_succ_of_lt (Nat.lt_trans (show b < h3.objs.size from List.mem_range.mp hb) e3)
    · obtain ⟨i, hij, p, t, e, rfl⟩ := hv
      obtain ⟨hj, ej⟩ := List.getElem?_eq_some_iff.mp hij
      rw [List.getElem_range] at ej
      subst ej
      exact ⟨t, by rw [valP_some e]⟩
    · obtain ⟨more, em⟩ := hmore
      have apart : ∀ b u, s1.heap.get? b = some u → b ∉ h3.objs.size :: [s1.heap.objs.size] := by
        intro b u e hb
        have l := Heap.lt_size e
        rcases List.mem_cons.mp hb with z | z
        · rw [z] at l
          exact Nat.lt_asymm (show h3.objs.size < s1.heap.objs.size from l) sz3
        · rcases List.mem_cons.mp z with z | z
          · rw [z] at l
            exact Nat.lt_irrefl _ l
          · cases z
      have J := GxR.inv_tab (more := more) (h' := s'.heap) (g' := s'.gens) (d' := s'.drawn) (t' := s'.toks) I1 hP (fun b u hb e => mv.heap b u (apart b u e) (hk5 b u (keep3 b u hb e)))
        (by rw [← em]; exact mv.heap P _ (apart P _ tabS) (hk5 P _ hP3)) (AllBare.movedS (I1.bare.push bare) mv)
      rw [GxR.sh_eta s1 s' mv.os] at J
      exact ⟨_, ⟨⟨tb ++ more, upd_same, by rw [← em]; exact ht3⟩, fun b hb => upd_ne hb⟩, J⟩
/-- sum(elt for xa, xb in te); behind it the def's table may have grown -/
def tSumP (K : PySem.W.Frag) (P : Addr) (ok : Int → Int → Int → Prop) (g : Int → Int → Int → Int) (ic : Nat) (te : TE) : TE := fun σ H Q => te σ H fun v H1 =>
  ∃ (yl : Addr) (ps : Prs) (d : Int), v = .ref yl ∧ PrsAt K H1 yl ps ∧ (∀ p ∈ ps, ok p.2.1 p.2.2 d) ∧ σ[ic]? = some (some (.int d)) ∧ GxR.TabG H1 P ∧ ∀ H2, GxR.Tabbed P H1 H2 → Q (.int (sumP ps d g)) H2
theorem pe_sumP {c P : Addr} {elt iter : Expr} {xa xb xc : Str} {pa pb pt gpos p pos : Pos} {kt ic k : Nat} {scope : Scope} {ok : Int → Int → Int → Prop} {g : Int → Int → Int → Int} {te : TE}
    (hr : Room k X.A) (hg : Gl X "sum") (hm : X.mg "sum" = none) (TB : GxR.TabB X.base X.mg c P) (hcode : X.env.code = .ref c) (S : GenT scope xa xb xc) (hN : X.N[ic]? = some xc) (hk : X.env.kindOf xc = some .cell) (hi : PE X iter te) (hel : EltT X.prog X.w scope xa xb xc elt ok g)
    (hs : ∀ v, genFold iter X.env v = pure v) (hb : bootBuiltins "sum" = some (.builtin "sum") := by decide +kernel)
    (he : starEach [.GeneratorExp elt [⟨.Tuple [.Name xa pa, .Name xb pb] kt pt, iter, [], 0⟩] scope gpos] X.env = (false, eval (.GeneratorExp elt [⟨.Tuple [.Name xa pa, .Name xb pb] kt pt, iter, [], 0⟩] scope gpos) X.env) :: starEach [] X.env := by rfl) :
    PE X (.Call (.Name "sum" p) [.GeneratorExp elt [⟨.Tuple [.Name xa pa, .Name xb pb] kt pt, iter, [], 0⟩] scope gpos] [] pos) (tSumP X.K P ok g ic te) := by
  constructor
  intro pins s σ H Q I want
  apply wpAny_Call_Name_kw (ld_blt I hg hm hb ?_)
  apply PyProof.Rows.callWith_builtin1 ?_ he (by rfl)
  rw [he]
  show wpAny _ _ (spliced ((false, eval (.GeneratorExp elt [⟨.Tuple [.Name xa pa, .Name xb pb] kt pt, iter, [], 0⟩] scope gpos) X.env) :: backTo pos (starEach [] X.env))) _ _ s
  apply Calls.spliced_cons (gen_prs (R := fun ps d H1 => ∀ H2, GxR.Tabbed P H1 H2 → Q (.int (sumP ps d g)) H2) hr TB hcode S hN hk hi hel hs I want ?_)
  intro ps d H1 a s5 k5 ready
  obtain ⟨fp, wr, G, F, St, W, st0, below, vals, ends⟩ := ready
  apply Calls.spliced_nil
  apply call_sum_walkAnyS
  refine W.self 0 _ _ _ st0 ⟨a, fp, wr, G, _, F, St, valP ps d g, rfl, W, st0, below, vals, fun s' t' mv => ?_⟩
  obtain ⟨H2, tabbed, J⟩ := ends s' mv
  rw [preSum_sumP]
  exact ⟨.int _, H2, J, ⟨t', rfl⟩, k5 H2 tabbed⟩
end
/-! ### the element top * (bottom // below) -/
def okCut (a b d : Int) : Prop := CDivZ d b ∧ CMulW a (d.fdiv b)
def gCut (a b d : Int) : Int := a * d.fdiv b
theorem elt_cut {prog : Program} {w : World} {scope : Scope} {xa xb xc : Str} {p1 p2 p3 p4 p5 : Pos} (S : GenT scope xa xb xc) (da : (xa == ("__debug__" : Str)) = false := by decide) (db : (xb == ("__debug__" : Str)) = false := by decide) (dc : (xc == ("__debug__" : Str)) = false := by decide)
    (dk : (xc == ("__classdict__" : Str)) = false := by decide) :
    EltT prog w scope xa xb xc (.BinOp (.Name xa p1) .Mult (.BinOp (.Name xc p2) .FloorDiv (.Name xb p3) p4) p5) okCut gCut := by
  intro cenv B E a b d ta tb td c s m hs ho hn ha hb hc hcell
  have kf : cenv.scope.kind = .function := by rw [hs]; exact S.kind
  have la : cenv.kindOf xa = some .local := by show cenv.scope.names.lookup xa = _; rw [hs]; exact S.la
  have lb : cenv.kindOf xb = some .local := by show cenv.scope.names.lookup xb = _; rw [hs]; exact S.lb
  have lc : cenv.kindOf xc = some .free := by show cenv.scope.names.lookup xc = _; rw [hs]; exact S.lc
  apply wpAny_BinOp
  apply wpAny_Name (wpAny_loadName_local kf la hn ha ?_) da
  apply wpAny_BinOp
  apply wpAny_Name (wpAny_loadName_free kf lc hc hcell ?_ dk) dc
  apply wpAny_Name (wpAny_loadName_local kf lb hn hb ?_) db
  apply floordiv_int ho.1.1 ?_ (.inl (PyProof.noPylong_of_log2 ho.1.2))
  apply mul_int ?_ ho.2.ok
  exact ⟨⟨_, rfl⟩, GxR.keeps_tok _ _⟩
end Jf
set_option Elab.async false
set_option linter.all false
set_option maxRecDepth 100000
set_option maxHeartbeats 4000000
namespace Jf
open PySem PySem.Spec PyProof.Rows L2 Evl
/-! ### many fractions over one bottom -/
def lcmN (d e : Int) : Int := d.fdiv ((Nat.gcd d.natAbs e.natAbs : Nat) : Int) * e
theorem lcm_step {d e : Int} (hd : 0 < d) (he : 0 < e) : 0 < lcmN d e ∧ d ∣ lcmN d e ∧ e ∣ lcmN d e ∧ lcmN d e ≤ d * e := by
  have h1 : ((Nat.gcd d.natAbs e.natAbs : Nat) : Int) ∣ d := Int.ofNat_dvd_left.mpr (Nat.gcd_dvd_left _ _)
  have h2 : ((Nat.gcd d.natAbs e.natAbs : Nat) : Int) ∣ e := Int.ofNat_dvd_left.mpr (Nat.gcd_dvd_right _ _)
  have hp := gcd_pos (n := d) (d := e) (by omega)
  unfold lcmN
  have hp' : (0 : Int) < ((Nat.gcd d.natAbs e.natAbs : Nat) : Int) := by omega
  clear hp
  generalize ((Nat.gcd d.natAbs e.natAbs : Nat) : Int) = g at h1 h2 hp' ⊢
  obtain ⟨k, rfl⟩ := h1
  obtain ⟨m, rfl⟩ := h2
  have up : ∀ z : Int, 0 < g * z → 0 < z := fun z h => by
    rcases Int.lt_or_le 0 z with q | q
    · exact q
    · have := Int.mul_le_mul_of_nonneg_left q (Int.le_of_lt hp')
      rw [Int.mul_zero] at this
      omega
  have hk := up k hd
  rw [Int.mul_fdiv_cancel_left _ (by omega)]
  refine ⟨Int.mul_pos hk he, ⟨m, by rw [← Int.mul_assoc, Int.mul_comm k g]⟩, ⟨k, Int.mul_comm _ _⟩, ?_⟩
  have : k * (g * m) ≤ (g * k) * (g * m) := by
    refine Int.mul_le_mul_of_nonneg_right ?_ (Int.le_of_lt he)
    have : 1 * k ≤ g * k := Int.mul_le_mul_of_nonneg_right (by omega) (Int.le_of_lt hk)
    omega
  exact this
theorem cut_eq {q : Rat} {D : Int} (h : (q.den : Int) ∣ D) : ((gCut q.num (q.den : Int) D : Int) : Rat) = q * (D : Rat) := by
  obtain ⟨m, rfl⟩ := h
  unfold gCut
  rw [Int.mul_fdiv_cancel_left _ (den_ne q)]
  have e : (q.num : Rat) / (((q.den : Nat) : Int) : Rat) = q := by
    rw [← Rat.divInt_eq_div]
    exact Rat.num_divInt_den q
  have n0 : (((q.den : Nat) : Int) : Rat) ≠ 0 := fun z => den_ne q (by exact_mod_cast z)
  rw [Rat.intCast_mul, Rat.intCast_mul]
  grind
abbrev Qs := List (Addr × Rat)
def prs (qs : Qs) : Prs := qs.map fun p => (p.1, p.2.num, (p.2.den : Int))
def sumQ (qs : Qs) : Rat := (qs.map fun p => p.2).sum
theorem sum_cut (D : Int) : ∀ qs : Qs, (∀ p ∈ qs, (p.2.den : Int) ∣ D) → ((sumP (prs qs) D gCut : Int) : Rat) = sumQ qs * (D : Rat)
  | [], _ => by
    show ((0 : Int) : Rat) = 0 * (D : Rat)
    grind
  | p :: qs, h => by
    have ih := sum_cut D qs fun p hp => h p (List.mem_cons_of_mem _ hp)
    have e := cut_eq (h p List.mem_cons_self)
    show ((gCut p.2.num (p.2.den : Int) D + sumP (prs qs) D gCut : Int) : Rat) = (p.2 + sumQ qs) * (D : Rat)
    rw [Rat.intCast_add, ih, e]
    grind
theorem sum_divInt {qs : Qs} {D : Int} (hD : D ≠ 0) (h : ∀ p ∈ qs, (p.2.den : Int) ∣ D) : Rat.divInt (sumP (prs qs) D gCut) D = sumQ qs := by
  rw [Rat.divInt_eq_div, sum_cut D qs h]
  have : (D : Rat) ≠ 0 := fun z => hD (by exact_mod_cast z)
  grind
theorem sumP_abs {M : Nat} {d : Int} {g : Int → Int → Int → Int} : ∀ ps : Prs, (∀ p ∈ ps, (g p.2.1 p.2.2 d).natAbs ≤ M) → (sumP ps d g).natAbs ≤ ps.length * M
  | [], _ => by
    show (0 : Int).natAbs ≤ _
    simp
  | p :: ps, h => by
    have ih := sumP_abs ps fun q hq => h q (List.mem_cons_of_mem _ hq)
    have e := h p List.mem_cons_self
    show (g p.2.1 p.2.2 d + sumP ps d g).natAbs ≤ (ps.length + 1) * M
    have := abs_add_le (g p.2.1 p.2.2 d) (sumP ps d g)
    rw [Nat.succ_mul]
    omega
theorem fdiv_le {d e : Int} (he : 0 < e) (h : e ∣ d) (hd : 0 < d) : 0 ≤ d.fdiv e ∧ d.fdiv e ≤ d := by
  rw [Int.fdiv_eq_ediv_of_nonneg d (by omega)]
  exact ⟨Int.ediv_nonneg (by omega) (by omega), Int.ediv_le_self e (by omega)⟩
theorem cut_ok {q : Rat} {d : Int} {b c : Nat} (hb : Bd b q) (hd : 0 < d) (hc : d.natAbs < 2 ^ c) (h : (q.den : Int) ∣ d) (hl : b + c ≤ 8000) : okCut q.num (q.den : Int) d ∧ (gCut q.num (q.den : Int) d).natAbs < 2 ^ (b + c) := by
  obtain ⟨h1, h2⟩ := fdiv_le (den_pos q) h hd
  have hf : (d.fdiv (q.den : Int)).natAbs < 2 ^ c := by omega
  refine ⟨⟨⟨den_ne q, log_lt (bd_den hb) (by omega : b ≤ 9000) (by decide)⟩, mulW hb.1 hf (by omega)⟩, ?_⟩
  exact bn_mul hb.1 hf
end Jf
set_option Elab.async false
set_option linter.all false
set_option maxRecDepth 100000
set_option maxHeartbeats 4000000
namespace Jf
open PySem PySem.Spec PyProof.Rows L2 Evl GxR GenW
/-! ### all(e for x in a tuple), e of any kind that the layer reads -/
/-- the inner scope: one name, nothing captured -/
structure OneN (scope : Scope) (x : Str) : Prop where
  kind : scope.kind = .function
  co : scope.isCoroutine = false
  cell : ∀ y ∈ scope.names, y.2 ≠ .cell
  dot : scope.names.lookup (".0" : Str) = some NameKind.local
  loc : scope.names.lookup x = some .local
  free : ∀ y ∈ scope.names, y.2 ≠ .free
  ne : (".0" : Str) ≠ x
/-- the inner context: the callers' frames behind it, the walked iterator free to turn -/
def gxOf (X : Cx) (x : Str) (s : Shared) (H : Hp) (cenv : Env) (B : Around) (I : Addr) : Cx where
  prog := X.prog
  w := X.w
  K := X.K
  mg := X.mg
  base := X.base
  A := B
  N := [".0", x]
  s_0 := s
  H_0 := H
  env := cenv
  outer := X.stack
  stack := cenv :: X.stack
  ex := [I]
  fn := fun _ => true
  calm := true
  pn := []
  xe := fun _ _ => False
/-- the reading: from the left, till one says no -/
def rdAll (te : TE) : List V → Hp → (Bool → Hp → Prop) → Prop
  | [], H, Q => Q true H
  | v :: vs, H, Q => te [none, some v] H fun r H' => ∃ b, r = .bl b ∧ (b = true → rdAll te vs H' Q) ∧ (b = false → Q false H')
section
variable {X : Cx}
/-- where the generator stands: its object, its iterator -/
def gPins (a I t : Addr) (go : Obj) (i : Nat) (io : Obj) : List (Addr × Obj) := [(a, go), (I, io)]
def GInv (Y : Cx) (a I t : Addr) (go : Obj) (i : Nat) (H : Hp) (s : Shared) : Prop :=
  ∃ (σ : L2.St) (io : Obj), σ.length = 2 ∧ σ[0]? = some none ∧ io.cls = .type "tuple_iterator" ∧ io.data = .fields #[.ref t, .int i 0] ∧ Inv Y [(a, go), (I, io)] σ H s
def gDone (Y : Cx) (Q : Bool → Hp → Prop) (_ : Nat) (_ s : Shared) : Prop := ∃ σ H, Inv Y [] σ H s ∧ Q true H
def gEnd (Y : Cx) (Q : Bool → Hp → Prop) : GenEnd := fun n s₀ r s => ((r = .ok (.ret .none) ∨ r = .ok .next) ∧ gDone Y Q n s₀ s) ∨ ∃ e, r = .error e ∧ False
def gProt (Y : Cx) (a I t : Addr) (go : Obj) (Q : Bool → Hp → Prop) : Protocol := fun _ _ v s kap =>
  ∃ b i H, v = .bool b ∧ GInv Y a I t go i H s ∧ (b = false → Q false H) ∧ (b = true → ∀ s', s'.os = s.os → AllBare s'.gens → s'.heap = s.heap → kap (.send .none) s')
theorem GInv.woke {Y : Cx} {a I t : Addr} {go : Obj} {i : Nat} {H : Hp} {s s' : Shared} (h : GInv Y a I t go i H s) (o : s'.os = s.os) (g : AllBare s'.gens) (e : s'.heap = s.heap) : GInv Y a I t go i H s' := by
  obtain ⟨σ, io, l, z, c, d, J⟩ := h
  refine ⟨σ, io, l, z, c, d, J.call' (ch := []) o ?_ ?_ g fun b z => by simp at z⟩
  · rw [e]
    exact Un.kept fun _ _ q => q
  · rw [e]
    exact J.hok
theorem Inv.sqt {Y : Cx} {pins : List (Addr × Obj)} {σ : L2.St} {H : Hp} {s : Shared} {t : Addr} {xs : List V} (J : Inv Y pins σ H s) (h : SqT Y.K Y.H_0 t xs) : SqT Y.K H t xs := by
  rcases h with (h | ⟨o, h⟩) | h
  · exact .inl (.inl (J.base.tups _ _ h))
  · exact .inl (.inr ⟨o, J.base.frzs _ _ _ h⟩)
  · exact .inr h
theorem GInv.turn {Y : Cx} {a I : Addr} {go io : Obj} {σ : L2.St} {H : Hp} {s : Shared} {h' : Heap} (J : Inv Y [(a, go), (I, io)] σ H s) (hex : I ∈ Y.ex) (haI : a ≠ I) (hpn : Y.pn = []) (hcl : Y.env.cells = [])
    (k : ∀ b o, b ≠ I → s.heap.get? b = some o → h'.get? b = some o) : Inv Y [(a, go)] σ H { s with heap := h' } := by
  have pI := J.pin (I, io) (List.mem_append_right _ (by simp))
  have J0 : Inv Y [(a, go)] σ H s := J.pins_of fun p hp => J.pin p (List.mem_append_right _ (by
    rw [List.mem_singleton.mp hp]
    simp))
  refine J0.turned (t' := s.toks) k pI.2.1 pI.2.2.1 (.inl hex) (fun y c e => ?_) fun p hp => ?_
  · rw [hcl] at e
    cases e
  · rw [hpn, List.nil_append, List.mem_singleton] at hp
    rw [hp]
    exact haI
theorem seg_allLoop {Y : Cx} {Aw : Around} {elt iter : Expr} {x : Str} {px pos : Pos} {scope : Scope} {a I t : Addr} {go : Obj} {xs : List V} {te : TE} {Q : Bool → Hp → Prop}
    (hA : Aw.handled = none) (hY : Y.A = Aw.over (.compLoop (.GeneratorExp elt [⟨.Name x px, iter, [], 0⟩] scope pos) 0 (.ref I) .none Y.env) [])
    (hN : Y.N = [(".0" : Str), x]) (S : OneN scope x) (hsc : Y.env.scope = scope) (hcl : Y.env.cells = []) (hex : I ∈ Y.ex) (haI : a ≠ I) (hIt : t ≠ I) (hpn : Y.pn = []) (hxe : Y.xe = fun _ _ => False)
    (hel : PE Y elt te) (hT : SqT Y.K Y.H_0 t xs) (hgo : ∀ v, go.data ≠ .cell v) :
    ∀ (vs : List V) (i : Nat) (H : Hp) (s₀ s : Shared), xs.drop i = vs → GInv Y a I t go i H s → rdAll te vs H Q →
      Seg (model Y.prog Y.w) Aw (gEnd Y Q) (gProt Y a I t go Q) vs.length s₀ (.compLoop (.GeneratorExp elt [⟨.Name x px, iter, [], 0⟩] scope pos) 0 (.ref I) .none Y.env)
        ((model Y.prog Y.w).den (.compLoop (.GeneratorExp elt [⟨.Name x px, iter, [], 0⟩] scope pos) 0 (.ref I) .none Y.env)) [] s := by
  have hh' : (Aw.over (.compLoop (.GeneratorExp elt [⟨.Name x px, iter, [], 0⟩] scope pos) 0 (.ref I) .none Y.env) []).handled = none := hA
  have hco : Y.env.scope.isCoroutine = false := by rw [hsc]; exact S.co
  intro vs
  induction vs with
  | nil =>
    intro i H s₀ s hd hG hr
    obtain ⟨σ, io, l, z, hc, hdd, J⟩ := hG
    obtain ⟨its, rv, tp, _⟩ := J.tuple (Inv.sqt J hT)
    have pI := J.pin (I, io) (List.mem_append_right _ (by simp))
    have hlen : its.toArray[i]? = none := by
      have h1 := rv.length
      have h2 : xs.length ≤ i := List.drop_eq_nil_iff.mp hd
      rw [List.getElem?_toArray]
      exact List.getElem?_eq_none (by omega)
    show Seg _ Aw _ _ _ s₀ _ ((compTurn (.GeneratorExp elt [⟨.Name x px, iter, [], 0⟩] scope pos) 0 (.ref I) .none Y.env).onRaise (leaving Y.env)) [] s
    rw [compTurn_gen, Sem.onRaise_eq_wrap]
    refine seg_bind_wrap (wpAny_standAt ?_)
    refine seg_bind_wrap (wpAny_pyNext_tuple_end hh' ⟨io, pI.1, hc, hdd⟩ tp hlen fun h' hx => ?_)
    refine seg_end (.ok .next) (.inl ⟨.inr rfl, σ, H, ?_, hr⟩)
    exact (GInv.turn J hex haI hpn hcl fun b o hb e => hx b o hb e).pins_of fun p hp => by simp at hp
  | cons v vs ih =>
    intro i H s₀ s hd hG hr
    obtain ⟨σ, io, l, z, hc, hdd, J⟩ := hG
    obtain ⟨its, rv, tp, _⟩ := J.tuple (Inv.sqt J hT)
    have pI := J.pin (I, io) (List.mem_append_right _ (by simp))
    have pa := J.pin (a, go) (List.mem_append_right _ (by simp))
    have hxi : xs[i]? = some v := by
      have := congrArg (fun q : List V => q[0]?) hd
      simpa using this
    have hd2 : xs.drop (i + 1) = vs := by
      have := congrArg List.tail hd
      simpa [List.tail_drop] using this
    obtain ⟨u, hu, ru⟩ := rv.get hxi
    show Seg _ Aw _ _ _ s₀ _ ((compTurn (.GeneratorExp elt [⟨.Name x px, iter, [], 0⟩] scope pos) 0 (.ref I) .none Y.env).onRaise (leaving Y.env)) [] s
    rw [compTurn_gen, Sem.onRaise_eq_wrap]
    refine seg_bind_wrap (wpAny_standAt ?_)
    refine seg_bind_wrap (wpAny_pyNext_tuple_item (i := i) (x := u) ⟨io, pI.1, hc, hdd⟩ tp (by rw [List.getElem?_toArray]; exact hu) fun h' it' sb => ?_)
    obtain ⟨io', hio', hc', hd'⟩ := it'
    have J1 : Inv Y [(a, go), (I, io')] σ H { s with heap := h' } := by
      have J0 := GInv.turn J hex haI hpn hcl fun b o hb e => sb.extBut b o hb e
      refine J0.pins_of fun p hp => ?_
      rcases List.mem_cons.mp hp with rfl | hp
      · exact J0.pin _ (List.mem_append_right _ (by simp))
      · rw [List.mem_singleton] at hp
        subst hp
        exact ⟨hio', pI.2.1, pI.2.2.1, pI.2.2.2.1, fun v q => by rw [hd'] at q; cases q⟩
    refine seg_bind_wrap (wpAny_of_eq (rfl : letOwnedTupleGo (.Name x px) (.ref I) u = pure ()) ?_)
    have nd : Y.N.Nodup := by
      rw [hN]
      simp [S.ne]
    have lc : Loc Y.env.scope x := by
      rw [hsc]
      exact .inl S.loc
    refine seg_bind_wrap ?_
    rw [← hY]
    refine wpAny_mono ((pg_name (X := Y) (pos := px) (i := 1) (x := x) nd (by rw [hN]; rfl) lc (by right; rw [hsc]; exact S.loc)).run _ _ σ H v u (fun σ' H' => σ' = [none, some v] ∧ H' = H) J1 ru ?_) (fun _ s2 h2 => ?_) fun e s' hx => by rw [hxe] at hx; exact hx.elim
    · refine ⟨?_, rfl⟩
      match σ, l, z with
      | [none, y], _, _ => rfl
      | [some _, y], _, z => simp at z
    obtain ⟨σ2, H2, J2, rfl, rfl⟩ := h2
    refine seg_bind_wrap ?_
    simp only [List.forIn_nil]
    refine wpAny_pure ?_
    simp only [if_true]
    have hy : ∀ v, yieldOut Y.env v = yieldValue v := fun v => by simp only [yieldOut, hco, Bool.false_eq_true, if_false]
    simp only [hy]
    rw [Sem.bind_eq_wrap', Sem.bind_eq_wrap', Sem.wrap_wrap, Sem.wrap_wrap]
    refine seg_wrap ?_
    rw [← hY]
    refine wpAny_mono (hel.run _ _ _ _ _ J2 hr) (fun y s3 h3 => ?_) fun e s' hx => by rw [hxe] at hx; exact hx.elim
    obtain ⟨r, H3, J3, rr, b, rfl, ht, hf⟩ := h3
    obtain rfl : y = Value.bool b := rr
    have G3 : GInv Y a I t go (i + 1) H3 s3 := ⟨_, io', rfl, rfl, hc', hd', J3⟩
    refine seg_at (seg_yield rfl rfl rfl ⟨b, i + 1, H3, rfl, G3, hf, fun hb s' o g e => ?_⟩)
    exact seg_again rfl (ih (i + 1) H3 s' s' hd2 (G3.woke o g e) (ht hb))
end
theorem seg_allStart {Y : Cx} {Aw : Around} {elt iter : Expr} {x : Str} {px pos : Pos} {scope : Scope} {a I t : Addr} {go : Obj} {xs : List V} {te : TE} {Q : Bool → Hp → Prop}
    (hA : Aw.handled = none) (hY : Y.A = Aw.over (.compLoop (.GeneratorExp elt [⟨.Name x px, iter, [], 0⟩] scope pos) 0 (.ref I) .none Y.env) [])
    (hN : Y.N = [(".0" : Str), x]) (S : OneN scope x) (hsc : Y.env.scope = scope) (hcl : Y.env.cells = []) (hex : I ∈ Y.ex) (haI : a ≠ I) (hIt : t ≠ I) (hpn : Y.pn = []) (hxe : Y.xe = fun _ _ => False)
    (hel : PE Y elt te) (hT : SqT Y.K Y.H_0 t xs) (hgo : ∀ v, go.data ≠ .cell v) {H : Hp} {s₀ s : Shared} (hG : GInv Y a I t go 0 H s) (hr : rdAll te xs H Q) :
    Seg (model Y.prog Y.w) Aw (gEnd Y Q) (gProt Y a I t go Q) xs.length s₀ (.compStart (.GeneratorExp elt [⟨.Name x px, iter, [], 0⟩] scope pos) 0 (.ref I) .none Y.env)
      ((model Y.prog Y.w).den (.compStart (.GeneratorExp elt [⟨.Name x px, iter, [], 0⟩] scope pos) 0 (.ref I) .none Y.env)) [] s := by
  have go1 : ∀ s₀, Seg (model Y.prog Y.w) Aw (gEnd Y Q) (gProt Y a I t go Q) xs.length s₀ (.compStart (.GeneratorExp elt [⟨.Name x px, iter, [], 0⟩] scope pos) 0 (.ref I) .none Y.env) (.pure (.again (.compLoop (.GeneratorExp elt [⟨.Name x px, iter, [], 0⟩] scope pos) 0 (.ref I) .none Y.env))) [] s := fun s₀ => by
    apply seg_again rfl
    exact seg_allLoop hA hY hN S hsc hcl hex haI hIt hpn hxe hel hT hgo xs 0 H s₀ s (List.drop_zero ..) hG hr
  obtain ⟨σ, io, l, z, hc, hdd, J⟩ := hG
  obtain ⟨its, rv, tp, _⟩ := J.tuple (Inv.sqt J hT)
  have pI := J.pin (I, io) (List.mem_append_right _ (by simp))
  have hh : (Aw.over (.compStart (.GeneratorExp elt [⟨.Name x px, iter, [], 0⟩] scope pos) 0 (.ref I) .none Y.env) []).handled = none := hA
  have W := Walks.tuple (prog := Y.prog) (w := Y.w) hh I t hIt its.toArray
  have again := go1 s₀
  show Seg _ Aw _ _ _ s₀ _ ((compStart _ 0 (.ref I) .none Y.env).onRaise (leaving Y.env)) [] s
  unfold compStart
  rw [Sem.onRaise_eq_wrap]
  apply seg_bind_wrap (m := ask)
  apply wpAny_askSetting
  split
  · exact again
  · apply seg_bind_wrap
    apply wpAny_rule
    apply seg_bind_wrap
    apply wpAny_standAt
    apply seg_bind_wrap
    exact W.self 0 s _ _ ⟨⟨io, pI.1, hc, hdd⟩, tp⟩ again
/-- the generator's own object -/
structure GenO (go : Obj) (g : Nat) : Prop where
  cls : go.cls = .type "generator"
  data : ∃ nm qn, go.data = .fields #[.int g 0, nm, qn]
  slots : go.slots = #[]
theorem GenO.at {go : Obj} {g : Nat} {h : Heap} {a : Addr} (G : GenO go g) (e : h.get? a = some go) : h.IsGen a g := by
  obtain ⟨nm, qn, d⟩ := G.data
  exact ⟨go, nm, qn, e, G.cls, d, G.slots⟩
theorem inv_gens {Y : Cx} {σ : L2.St} {H : Hp} {s s' : Shared} {pins : List (Addr × Obj)} (J : Inv Y pins σ H s) (o : s'.os = s.os) (g : AllBare s'.gens) (k : ∀ b o, s.heap.get? b = some o → s'.heap.get? b = some o) : Inv Y pins σ H s' :=
  J.call' (ch := []) o (Un.kept k) (J.hok.kept k) g fun b z => by simp at z
theorem all_loop {Y : Cx} {A : Around} {a I t : Addr} {go : Obj} {g : Nat} {R : Result → Shared → Prop} {Q : Bool → Hp → Prop} (hh : A.handled = none) (hd : A.depth < recursionLimit) (G : GenO go g)
    (fin : ∀ b σ H s, Inv Y [] σ H s → Q b H → R (.ok (.ret (.bool b))) s) :
    ∀ (n : Nat) (s : Shared), s.heap.get? a = some go → s.heap.NoLimit → (∃ gs, s.gens[g]? = some gs ∧ gs.Goes (model Y.prog Y.w) A.in1.in1 (gEnd Y Q) (gProt Y a I t go Q) n (.send .none) (s.setGen g .running)) →
      codeAny (model Y.prog Y.w) A (.builtin "all.loop" ⟨[.ref a], []⟩) R s := by
  intro n
  induction n with
  | zero =>
    intro s ha hl ⟨gs, hgs, hgo⟩
    apply codeAny_builtin F.entry_all_loop
    rw [Around.under_plainId F.plain_all_loop _]
    show wpAny _ A.in1 (pyNext (.ref a) >>= _) _ _ s
    apply wpAny_bind
    apply next_genG (A := A.in1) (F := gDone Y Q) (Er := fun _ _ => False) hh hl hd (G.at ha) hgs hgo
    · intro v s1 gs' hb hv
      obtain ⟨b, i, H, rfl, hG, hf, ht⟩ := hv
      cases b with
      | true =>
        obtain ⟨_, _, _, _, _, _, J⟩ := hG
        exact False.elim (ht rfl s1 rfl J.bare rfl)
      | false =>
        obtain ⟨σ, io, _, _, _, _, J⟩ := hG
        apply wpAny_bind
        apply wpAny_holding
        apply wpAny_truthy_bool
        apply wpAny_bind
        apply wpAny_letGo
        show wpAny _ _ (rule _ >>= _) _ _ _
        apply wpAny_bind
        apply wpAny_rule
        apply wpAny_pure
        exact fin false σ H _ (inv_gens (J.pins_of fun p hp => by simp at hp) rfl (allBare_setGen J.bare hb) fun _ _ e => e) (hf rfl)
    · intro s1 hp h' hk
      obtain ⟨σ, H, J, q⟩ := hp
      show wpAny _ _ (rule _ >>= _) _ _ _
      apply wpAny_bind
      apply wpAny_rule
      apply wpAny_pure
      exact fin true σ H _ (inv_gens J rfl (allBare_setGen J.bare rfl) hk) q
    · intro e s1 he
      exact he.elim
  | succ n ih =>
    intro s ha hl ⟨gs, hgs, hgo⟩
    have hgl : g < s.gens.size := (Array.getElem?_eq_some_iff.mp hgs).1
    apply codeAny_builtin F.entry_all_loop
    rw [Around.under_plainId F.plain_all_loop _]
    show wpAny _ A.in1 (pyNext (.ref a) >>= _) _ _ s
    apply wpAny_bind
    apply wpAny_gsz (n := g + 1) hgl
    apply next_genG (A := A.in1) (F := gDone Y Q) (Er := fun _ _ => False) hh hl hd (G.at ha) hgs hgo
    · intro v s1 gs' hb hv hsz
      obtain ⟨b, i, H, rfl, hG, hf, ht⟩ := hv
      have hG' := hG
      obtain ⟨σ, io, _, _, _, _, J⟩ := hG'
      have pa := J.pin (a, go) (List.mem_append_right _ (by simp))
      apply wpAny_bind
      apply wpAny_holding
      apply wpAny_truthy_bool
      apply wpAny_bind
      apply wpAny_letGo
      cases b with
      | false =>
        show wpAny _ _ (rule _ >>= _) _ _ _
        apply wpAny_bind
        apply wpAny_rule
        apply wpAny_pure
        exact fin false σ H _ (inv_gens (J.pins_of fun p hp => by simp at hp) rfl (allBare_setGen J.bare hb) fun _ _ e => e) (hf rfl)
      | true =>
        simp only [if_true]
        have hsz1 : g < s1.gens.size := by
          have q : (s1.setGen g gs').gens.size = s1.gens.size := setGen_size _ _ _
          have : g + 1 ≤ (s1.setGen g gs').gens.size := hsz
          omega
        refine wpAny_pure ⟨plainId_quiet F.plain_all_loop _, ih (s1.setGen g gs') pa.1 J.nolimit ⟨gs', setGen_at hsz1, ?_⟩⟩
        exact ht rfl _ rfl (allBare_setGen (s := s1.setGen g gs') (allBare_setGen J.bare hb) rfl) rfl
    · intro s1 hp h' hk hsz
      obtain ⟨σ, H, J, q⟩ := hp
      show wpAny _ _ (rule _ >>= _) _ _ _
      apply wpAny_bind
      apply wpAny_rule
      apply wpAny_pure
      exact fin true σ H _ (inv_gens J rfl (allBare_setGen J.bare rfl) hk) q
    · intro e s1 he
      exact he.elim
theorem clo_none {cells : List (Str × Addr)} : ∀ {ns : List (Str × NameKind)} {acc : List (Str × Addr)}, (∀ y ∈ ns, y.2 ≠ .free) → cloFrom cells ns acc = acc
  | [], _, _ => rfl
  | (n, k) :: r, acc, h => by
    have hk : k ≠ .free := h (n, k) (by simp)
    unfold cloFrom
    cases k <;> first | exact absurd rfl hk | exact clo_none fun y hy => h y (List.mem_cons_of_mem _ hy)
theorem envs_loop {elt iter : Expr} {x : Str} {px pos : Pos} {scope : Scope} {it acc : Value} {env : Env} {A : Around} {l : List Env} (h : A.frames = some l) : (A.over (.compLoop (.GeneratorExp elt [⟨.Name x px, iter, [], 0⟩] scope pos) 0 it acc env) []).frames = some (env :: l) := by
  show pushEnvs (Code.envs (.compLoop (.GeneratorExp elt [⟨.Name x px, iter, [], 0⟩] scope pos) 0 it acc env)) (pushEnvs [] A.frames) = _
  rw [h]
  rfl
theorem room_loop {k : Nat} {A : Around} {elt iter : Expr} {x : Str} {px pos : Pos} {scope : Scope} {it acc : Value} {env : Env} (r : Room (k + 1) A) : Room k (A.in1.in1.over (.compLoop (.GeneratorExp elt [⟨.Name x px, iter, [], 0⟩] scope pos) 0 it acc env) []) := by
  have h1 : (A.in1.in1.over (.compLoop (.GeneratorExp elt [⟨.Name x px, iter, [], 0⟩] scope pos) 0 it acc env) []).depth = A.in1.in1.depth + 1 := rfl
  have h2 : (A.in1.in1.over (.compLoop (.GeneratorExp elt [⟨.Name x px, iter, [], 0⟩] scope pos) 0 it acc env) []).units = A.in1.in1.units + 3 := rfl
  have h3 : A.in1.in1.depth = A.depth := rfl
  have h4 : A.in1.in1.units = A.units + 1 + 1 := rfl
  have h5 := r.dp
  have h6 := r.un
  exact ⟨r.hd, by rw [h1, h3]; omega, by rw [h2, h4]; omega⟩
section
variable {X : Cx} {pins : List (Addr × Obj)} {σ : L2.St} {H : Hp} {s : Shared}
/-- made, not begun; what its whole walk by all leaves -/
def ReadyA (X : Cx) (pins : List (Addr × Obj)) (σ : L2.St) (te : TE) (xs : List V) (H2 : Hp) (a : Addr) (s5 : Shared) : Prop :=
  ∃ (go : Obj) (g : Nat), GenO go g ∧ s5.heap.get? a = some go ∧ s5.heap.NoLimit ∧ g < s5.gens.size ∧ ∀ Q : Bool → Hp → Prop, rdAll te xs H2 Q → ∃ (Y : Cx) (I t : Addr),
    Y.prog = X.prog ∧ Y.w = X.w ∧ (∃ gs, s5.gens[g]? = some gs ∧ gs.Goes (model Y.prog Y.w) X.A.in1.in1 (gEnd Y Q) (gProt Y a I t go Q) xs.length (.send .none) (s5.setGen g .running)) ∧
    ∀ b σ' H' s', Inv Y [] σ' H' s' → Q b H' → ∃ H'', Inv X pins σ H'' s' ∧ Q b H''
theorem gen_tup {c P : Addr} {elt iter : Expr} {x : Str} {px gpos : Pos} {scope : Scope} {te ti : TE} {k : Nat} {Q' : Value → Shared → Prop} {R : List V → Hp → Prop}
    (hr : Room (k + 1) X.A) (TB : GxR.TabB X.base X.mg c P) (hcode : X.env.code = .ref c) (S : OneN scope x) (hi : PE X iter ti)
    (hel : ∀ (s : Shared) (H : Hp) (C : Addr) (code : Value) (I : Addr), Room k (X.A.in1.in1.over (.compLoop (.GeneratorExp elt [⟨.Name x px, iter, [], 0⟩] scope gpos) 0 (.ref I) .none (genEnv scope [] C code builtinsNs X.env)) []) →
      PE (gxOf X x s H (genEnv scope [] C code builtinsNs X.env) (X.A.in1.in1.over (.compLoop (.GeneratorExp elt [⟨.Name x px, iter, [], 0⟩] scope gpos) 0 (.ref I) .none (genEnv scope [] C code builtinsNs X.env)) []) I) elt te)
    (hs : ∀ v, genFold iter X.env v = pure v) (I0 : Inv X pins σ H s)
    (h : ti σ H fun v H1 => ∃ (t : Addr) (xs : List V), v = .ref t ∧ SqT X.K H1 t xs ∧ GxR.TabG H1 P ∧ ∀ H2, GxR.Tabbed P H1 H2 → R xs H2)
    (hQ : ∀ xs H2 a s5, R xs H2 → ReadyA X pins σ te xs H2 a s5 → Q' (.ref a) s5) :
    wpAny (model X.prog X.w) X.A (eval (.GeneratorExp elt [⟨.Name x px, iter, [], 0⟩] scope gpos) X.env) Q' X.xe s := by
  have hcl : closureFor scope X.env = pure [] := by
    rw [closure_ok fun y hy hf => absurd hf (S.free y hy), clo_none S.free]
  have hroom : X.A.depth < recursionLimit := by
    have := hr.dp
    omega
  apply wpAny_GeneratorExp_make S.co hcl S.cell S.dot S.kind hroom ?_ hs
  apply thn (hi.run pins s σ H _ I0 h)
  rintro xv s1 ⟨v, H1, I1, r1, t, xs, rfl, hT, ⟨tb, hP, ht⟩, q1⟩
  obtain rfl : xv = Value.ref t := r1
  obtain ⟨its, rv, tp, _⟩ := I1.tuple hT
  apply wpAny_pyIter_tuple tp
  generalize ho : ({ cls := .type "tuple_iterator", data := .fields #[.ref t, .int 0 0] } : Obj) = it0
  have old : ∀ b u, s1.heap.get? b = some u → (s1.heap.push it0).get? b = some u := fun b u e => Heap.get?_push_of_some _ e
  have here : (s1.heap.push it0).get? s1.heap.objs.size = some it0 := by
    subst ho
    exact Heap.get?_push_size _ rfl
  have tabS : s1.heap.get? P = some { cls := .none, data := .fields tb } := I1.hok P _ hP
  have Plt : P < s1.heap.objs.size := Heap.lt_size tabS
  have lim2 : (s1.heap.push it0).NoLimit := I1.nolimit.push it0
  refine ⟨lim2, ?_⟩
  refine gcode (s2 := { s1 with heap := s1.heap.push it0 }) hcode (TB.code.keeps fun b u e => old b u (I1.bk b u e)) (old _ _ tabS) ht fun code h3 n3 tb3 hx hsz hP3 hmore ht3 => ?_
  obtain ⟨bm, ob, e1, e2, e3, e4, e5, e6, e7, e8⟩ := TB.bm
  have keep3 : ∀ b u, b ≠ P → s1.heap.get? b = some u → h3.get? b = some u := fun b u hb e => hx b u hb (old b u e)
  have nP : s1.heap.objs.size ≠ P := Nat.ne_of_gt Plt
  have here3 : h3.get? s1.heap.objs.size = some it0 := hx _ _ nP here
  have sz3 : s1.heap.objs.size < h3.objs.size := Heap.lt_size here3
  have cP : cStatics ≠ P := fun e => by
    obtain ⟨_, hns, _⟩ := I1.nolimit
    obtain ⟨o', es, ep, ho', hd', _⟩ := hns
    rw [e, tabS] at ho'
    cases ho'
    cases hd'
  apply wpAny_builtinsFor (m := X.mg) (by rw [I1.ok.glob]; exact ((I1.mod.glob.keeps I1.bk).push it0).extBut hx TB.gP) e1 e2 (keep3 _ _ e4 (I1.bk _ _ e5)) e6 e7 e8
  intro h5 hns hsb
  obtain ⟨more, em⟩ := hmore
  subst em
  have I4 := GxR.inv_tab (more := more) (h' := h3) (g' := s1.gens) (d' := s1.drawn) (t' := n3) I1 hP keep3 hP3 I1.bare
  have H2t : (upd H1 P (.tbl (tb ++ more))) s1.heap.objs.size = none := by
    rw [upd_ne nP]
    exact I1.hok.fresh (Nat.le_refl _)
  have T2 : SqT X.K (upd H1 P (.tbl (tb ++ more))) t xs := by
    have ne : ∀ u, H1 t = some u → (∀ q, u ≠ .tbl q) → t ≠ P := fun u e q z => by
      rw [z, hP] at e
      exact q tb (Option.some.inj e).symm
    rcases hT with (z | ⟨o, z⟩) | z
    · exact .inl (.inl (by rw [upd_ne (ne _ z fun q y => by cases y)]; exact z))
    · exact .inl (.inr ⟨o, by rw [upd_ne (ne _ z fun q y => by cases y)]; exact z⟩)
    · exact .inr z
  generalize hgo : ({ cls := .type "generator", data := .fields #[.int s1.gens.size 0, .str "<genexpr>" (n3 + 1), .str (X.env.qual ++ "<genexpr>") (n3 + 1 + 1)] } : Obj) = go
  have GO : GenO go s1.gens.size := by
    subst hgo
    exact ⟨rfl, ⟨_, _, rfl⟩, rfl⟩
  have k5 : ∀ b u, h3.get? b = some u → h5.get? b = some u := fun b u e => hsb.extBut b u (Nat.ne_of_lt (Heap.lt_size e)) (Heap.get?_push_of_some _ e)
  have k6 : ∀ b u, h3.get? b = some u → (h5.push go).get? b = some u := fun b u e => Heap.get?_push_of_some _ (k5 b u e)
  have sz5 : h5.objs.size = h3.objs.size + 1 := by rw [hsb.1, Heap.size_push]
  have hga : (h5.push go).get? h5.objs.size = some go := by
    subst hgo
    exact Heap.get?_push_size _ rfl
  refine hQ xs (upd H1 P (.tbl (tb ++ more))) _ _ (q1 _ ⟨⟨_, upd_same, ht3⟩, fun b hb => upd_ne hb⟩) ⟨go, s1.gens.size, GO, hga, I4.nolimit.keeps k6, by show _ < (s1.gens.push _).size; rw [Array.size_push]; exact Nat.lt_succ_self _, fun Q hrd => ?_⟩
  have tlt : t < s1.heap.objs.size := by
    obtain ⟨o, e, _⟩ := _root_.id tp
    exact Heap.lt_size e
  have hIt : t ≠ s1.heap.objs.size := Nat.ne_of_lt tlt
  have haI : h5.objs.size ≠ s1.heap.objs.size := by
    rw [sz5]
    omega
  have nst : ∀ b, s1.heap.objs.size ≤ b → b ∉ frs X.stack := fun b hb hm => by
    rcases List.mem_cons.mp (I1.stkSub b hm) with z | z
    · rw [z] at hb
      exact absurd (Nat.lt_of_lt_of_le I1.lt hb) (Nat.lt_irrefl _)
    · exact I1.nofs hb z
  have itd : it0.cls = .type "tuple_iterator" ∧ it0.data = .fields #[.ref t, .int ((0 : Nat) : Int) 0] := by
    subst ho
    exact ⟨rfl, rfl⟩
  have god : ∀ v, go.data ≠ .cell v := fun v q => by
    obtain ⟨nm, qn, d⟩ := GO.data
    rw [d] at q
    cases q
  have KY : (gxOf X x { s1 with heap := h3, gens := s1.gens, drawn := s1.drawn, toks := n3 } (upd H1 P (.tbl (tb ++ more))) (genEnv scope [] h3.objs.size code builtinsNs X.env)
      (X.A.in1.in1.over (.compLoop (.GeneratorExp elt [⟨.Name x px, iter, [], 0⟩] scope gpos) 0 (.ref s1.heap.objs.size) .none (genEnv scope [] h3.objs.size code builtinsNs X.env)) []) s1.heap.objs.size).Ok := by
    refine ⟨I4.ok.mod, S.kind, I4.ok.glob, rfl, Nat.le_refl _, fun y z c e _ => (by cases e), fun y hy => ?_, fun y c _ e => (by cases e), fun _ => hr.hd, envs_loop I4.ok.frames, .inr ⟨rfl, rfl⟩, fun b hb => ?_, fun b o e => I4.bs b o e, Nat.le_trans I4.ok.bsz I4.sz, fun b o e hb => ?_, fun b hb => ?_, I4.stack, I4.stkFree⟩
    · have hy' : scope.names.lookup y = some .cell ∨ scope.names.lookup y = some .free := hy
      rcases hy' with z | z
      · exact absurd rfl (S.cell _ (PySem.mem_of_lookup z))
      · exact absurd rfl (S.free _ (PySem.mem_of_lookup z))
    · rw [List.mem_singleton.mp hb]
      exact ⟨Nat.ne_of_lt sz3, fun y c e => (by cases e)⟩
    · rw [List.mem_singleton.mp hb] at e
      exact absurd (Heap.lt_size (I1.bk _ _ e)) (Nat.lt_irrefl _)
    · rw [List.mem_singleton.mp hb]
      exact nst _ (Nat.le_refl _)
  refine ⟨gxOf X x { s1 with heap := h3, gens := s1.gens, drawn := s1.drawn, toks := n3 } (upd H1 P (.tbl (tb ++ more))) (genEnv scope [] h3.objs.size code builtinsNs X.env)
      (X.A.in1.in1.over (.compLoop (.GeneratorExp elt [⟨.Name x px, iter, [], 0⟩] scope gpos) 0 (.ref s1.heap.objs.size) .none (genEnv scope [] h3.objs.size code builtinsNs X.env)) []) s1.heap.objs.size, s1.heap.objs.size, t, rfl, rfl,
    ⟨_, Array.getElem?_push_size .., rfl, seg_allStart (Aw := X.A.in1.in1) hr.hd rfl rfl S rfl rfl (by show _ ∈ [_]; simp) haI hIt rfl rfl (hel _ _ _ _ _ (room_loop hr)) T2 god ⟨[none, none], it0, rfl, rfl, itd.1, itd.2, ?_⟩ hrd⟩, fun b σ' H' s' J q => ⟨H', I4.call' (ch := [s1.heap.objs.size]) J.os J.base J.hok J.bare fun b hb => ?_, q⟩⟩
  · refine ⟨KY, rfl, allBare_setGen (AllBare.push I1.bare rfl) rfl, Un.kept k6, ⟨_, hns.push _, fun i y v _ h2 _ => ?_⟩, fun y c e => (by cases e), I4.hok.fresh (Nat.le_refl _), fun y c e => (by cases e), fun p hp => ?_, I4.hok.kept k6, rfl⟩
    · match i, h2 with
      | 0, h2 => cases h2
      | 1, h2 => cases h2
      | n + 2, h2 => cases h2
    · rcases List.mem_cons.mp (show p ∈ [(h5.objs.size, go), (s1.heap.objs.size, it0)] from hp) with rfl | hp
      · exact ⟨hga, I4.hok.fresh (show h3.objs.size ≤ h5.objs.size by omega), (by show h5.objs.size ≠ h3.objs.size; omega), nst _ (show s1.heap.objs.size ≤ h5.objs.size by omega), god⟩
      · rw [List.mem_singleton] at hp
        subst hp
        exact ⟨k6 _ _ here3, H2t, Nat.ne_of_lt sz3, nst _ (Nat.le_refl _), fun v q => by rw [itd.2] at q; cases q⟩
  · rw [List.mem_singleton.mp hb]
    refine ⟨.inr I1.sz, Nat.ne_of_gt I1.lt, fun y c e z => ?_, fun p hp z => ?_⟩
    · obtain ⟨v, o, e2, _⟩ := I1.cell y c e
      have := Heap.lt_size e2
      rw [z] at this
      exact Nat.lt_irrefl _ this
    · have := Heap.lt_size (I1.pin p hp).1
      rw [z] at this
      exact Nat.lt_irrefl _ this
end
section
variable {X : Cx}
/-- all(e for x in t), t a tuple: the def's table may have grown when the first is asked -/
def tAllT (K : PySem.W.Frag) (P : Addr) (te ti : TE) : TE := fun σ H Q => ti σ H fun v H1 =>
  ∃ (t : Addr) (xs : List V), v = .ref t ∧ SqT K H1 t xs ∧ GxR.TabG H1 P ∧ ∀ H2, GxR.Tabbed P H1 H2 → rdAll te xs H2 fun b H' => Q (.bl b) H'
theorem pe_allT {c P : Addr} {elt iter : Expr} {x : Str} {px p pos gpos : Pos} {scope : Scope} {te ti : TE} {k : Nat}
    (hr : Room (k + 1) X.A) (hg : Gl X "all") (hm : X.mg "all" = none) (TB : GxR.TabB X.base X.mg c P) (hcode : X.env.code = .ref c) (S : OneN scope x) (hi : PE X iter ti)
    (hel : ∀ (s : Shared) (H : Hp) (C : Addr) (code : Value) (I : Addr), Room k (X.A.in1.in1.over (.compLoop (.GeneratorExp elt [⟨.Name x px, iter, [], 0⟩] scope gpos) 0 (.ref I) .none (genEnv scope [] C code builtinsNs X.env)) []) →
      PE (gxOf X x s H (genEnv scope [] C code builtinsNs X.env) (X.A.in1.in1.over (.compLoop (.GeneratorExp elt [⟨.Name x px, iter, [], 0⟩] scope gpos) 0 (.ref I) .none (genEnv scope [] C code builtinsNs X.env)) []) I) elt te)
    (hs : ∀ v, genFold iter X.env v = pure v) (hb : bootBuiltins "all" = some (.builtin "all") := by decide +kernel)
    (he : starEach [.GeneratorExp elt [⟨.Name x px, iter, [], 0⟩] scope gpos] X.env = (false, eval (.GeneratorExp elt [⟨.Name x px, iter, [], 0⟩] scope gpos) X.env) :: starEach [] X.env := by rfl) :
    PE X (.Call (.Name "all" p) [.GeneratorExp elt [⟨.Name x px, iter, [], 0⟩] scope gpos] [] pos) (tAllT X.K P te ti) := by
  constructor
  intro pins s σ H Q I want
  have hroom : X.A.depth < recursionLimit := by
    have := hr.dp
    omega
  apply wpAny_Call_Name_kw (ld_blt I hg hm hb ?_)
  apply PyProof.Rows.callWith_builtin1 ?_ he (by rfl)
  rw [he]
  show wpAny _ _ (spliced ((false, eval (.GeneratorExp elt [⟨.Name x px, iter, [], 0⟩] scope gpos) X.env) :: backTo pos (starEach [] X.env))) _ _ s
  apply Calls.spliced_cons (gen_tup (R := fun xs H2 => rdAll te xs H2 fun b H' => Q (.bl b) H') hr TB hcode S hi hel hs I want ?_)
  intro xs H2 a s5 k5 ready
  obtain ⟨go, g, GO, ha, lim, _, fin⟩ := ready
  obtain ⟨Y, I', t, eP, eW, hgo, back⟩ := fin _ k5
  apply Calls.spliced_nil
  apply call_function_tree F.kind_all F.plain_all F.entry_all (F.args_all1 _)
  unfold Builtin.«all»
  refine wpAny_bind (m := oneArg "all" _) (wpAny_pure ?_)
  refine wpAny_bind (wpAny_pyIter_gen (GO.at ha) ?_)
  refine wpAny_pure ⟨plainId_quiet F.plain_all_loop _, ?_⟩
  have key := all_loop (Y := Y) (A := X.A) (R := fun r s' => match r with | .ok (.ret v) => EP X pins σ Q v s' | .ok _ => False | .error e => X.xe e s') hr.hd hroom GO (fun b σ' H' s' J q => by
    obtain ⟨H'', J2, q2⟩ := back b σ' H' s' J q
    exact ⟨.bl b, H'', J2, rfl, q2⟩) xs.length s5 ha lim hgo
  rw [eP, eW] at key
  exact key
end
/-- for x in (a if c else b) -/
def iIf (tc : TT) (wa wb : TI) : TI := fun σ H R => tc σ H fun b H1 => if b = true then wa σ H1 R else wb σ H1 R
theorem pi_if {X : Cx} {tg c a b : Expr} {pos : Pos} {tc : TT} {wa wb : TI} (hc : PT X c tc) (ha : PI X tg a wa) (hb : PI X tg b wb) : PI X tg (.IfExp c a b pos) (iIf tc wa wb) := by
  constructor
  intro pins s σ H R I h
  apply wpAny_IfExp
  apply thn (hc.run pins s σ H _ I h)
  rintro d s1 ⟨H1, I1, q1⟩
  cases d with
  | true => exact ha.run pins s1 σ H1 R I1 q1
  | false => exact hb.run pins s1 σ H1 R I1 q1
end Jf
set_option Elab.async false
set_option linter.all false
set_option maxRecDepth 100000
set_option maxHeartbeats 4000000
/-! ### enumerate(t) of a tuple -/
namespace PySem
open AutoSeq1 (wpAny_loadPart')
section
variable {prog : Program} {w : World} {A : Around} {E : Value → Shared → Prop} {s : Shared} {e it t : Addr} {i : Nat} {items : Array Value} {x old : Value}
/-- the iterator within hands on an item -/
theorem jf_next {Q : Value → Shared → Prop} (a : s.heap.IsTupleIter it t i) (b : s.heap.IsTuple t items) (hx : items[i]? = some x) (k : ∀ h', h'.IsTupleIter it t (i + 1) → Heap.SameBut it s.heap h' → Q x { s with heap := h' }) :
    wpAny (model prog w) A (Builtin.SmallTypes.nextOf (.ref it)) Q E s := by
  obtain ⟨u, e1, e2, e3⟩ := id a
  obtain ⟨v, f1, _, n, f2⟩ := id b
  have S := F.slot_tuple_iterator_next
  have no : ¬ ((Value.ref t == Value.none) = true) := Bool.false_ne_true
  unfold Builtin.SmallTypes.nextOf
  refine wpAny_bind (wpAny_callSpecial?_slot (name := Str.ofString "__next__") a.typeIs S (wpAny_call_entry S a.typeIs F.entry_tuple_iterator_next ?_ (F.args_tuple_iterator_next_1 _)))
  refine wpAny_bind (m := field (.ref it) 0) (wpAny_field e1 e3 (x := .ref t) rfl ?_)
  dsimp only
  rw [if_neg no]
  refine wpAny_bind (m := field (.ref it) 1) (wpAny_field e1 e3 (x := .int i 0) rfl (wpAny_bind (m := seqItems? (.ref t)) (wpAny_seqItems f1 f2 ?_)))
  simp only [Int.toNat_natCast, hx]
  refine wpAny_bind (wpAny_setField e1 e3 (by simp) (wpAny_pure ⟨x, rfl, wpAny_pure (k _ ⟨_, Heap.get?_update_self _ e1 (Obj.isFreed_of_fields (Obj.data_mapFields e3 _)), (Obj.cls_mapFields ..).trans e2, ?_⟩ (Heap.SameBut.update ..))⟩))
  rw [Obj.data_mapFields e3]
  simp [rawInt]
/-- .. or has none -/
theorem jf_none {Q : Value → Shared → Prop} (hh : A.handled = none) (a : s.heap.IsTupleIter it t i) (b : s.heap.IsTuple t items) (hx : items[i]? = none)
    (k : ∀ h' y, Heap.ExtBut it s.heap h' → (∃ o, h'.get? y = some o ∧ o.cls = .type "StopIteration") → E (.ref y) { s with heap := h' }) : wpAny (model prog w) A (Builtin.SmallTypes.nextOf (.ref it)) Q E s := by
  obtain ⟨u, e1, e2, e3⟩ := id a
  obtain ⟨v, f1, _, n, f2⟩ := id b
  have S := F.slot_tuple_iterator_next
  have no : ¬ ((Value.ref t == Value.none) = true) := Bool.false_ne_true
  unfold Builtin.SmallTypes.nextOf
  refine wpAny_bind (wpAny_callSpecial?_slot (name := Str.ofString "__next__") a.typeIs S (wpAny_call_entry S a.typeIs F.entry_tuple_iterator_next ?_ (F.args_tuple_iterator_next_1 _)))
  refine wpAny_bind (m := field (.ref it) 0) (wpAny_field e1 e3 (x := .ref t) rfl ?_)
  dsimp only
  rw [if_neg no]
  refine wpAny_bind (m := field (.ref it) 1) (wpAny_field e1 e3 (x := .int i 0) rfl (wpAny_bind (m := seqItems? (.ref t)) (wpAny_seqItems f1 f2 ?_)))
  simp only [Int.toNat_natCast, hx]
  refine wpAny_bind (wpAny_rule (wpAny_bind (wpAny_setField e1 e3 (by simp) (wpAny_bind (m := newExc (.type "StopIteration") []) ?_))))
  simp only [newExc, newTuple]
  refine wpAny_bind (wpAny_newObj_type (wpAny_bind (m := firstArgMember _ _) (wpAny_of_eq (a := Value.none) (by first | rfl | (simp only [firstArgMember]; rfl)) (wpAny_newObj_type ?_ (by size_fits)))) (by size_fits))
  simp only [raiseNew]
  refine wpAny_bind (wpAny_handled ?_)
  first | rw [show A.in1.handled = none from hh] | rw [hh]
  exact wpAny_bind (wpAny_pure (wpAny_throw (k _ _ (((Heap.SameBut.update ..).extBut.push _).push _) ⟨_, Heap.get?_push_size _ rfl, rfl⟩)))
/-- enumerate's turn, whatever stands within: what it needs of the turn within is told by hn -/
theorem jf_enum {P : Heap → Prop} {Q : Value → Shared → Prop} (he : IsEnum s.heap e it i old) (hne : e ≠ it)
    (hn : ∀ {B : Around} {R : Value → Shared → Prop} {Ex : Value → Shared → Prop}, (∀ h', P h' → Heap.SameBut it s.heap h' → R x { s with heap := h' }) → wpAny (model prog w) B (Builtin.SmallTypes.nextOf (.ref it)) R Ex s)
    (hP : ∀ h h', P h → (∀ b o, b ≠ e → h.get? b = some o → h'.get? b = some o) → P h')
    (k : ∀ h', IsEnumOut h' e it ((i : Int) + 1) x s.heap.objs.size → P h' → h'.get? s.heap.objs.size = some { cls := .type "tuple", data := .seq #[.int i s.toks, x] } → h'.objs.size = s.heap.objs.size + 1 →
      (∀ b o, b ≠ e → b ≠ it → s.heap.get? b = some o → h'.get? b = some o) → Q (.ref s.heap.objs.size) { s with heap := h', toks := s.toks + 1 }) :
    wpAny (model prog w) A (Builtin.«enumerate.__next__» ⟨[.ref e], []⟩) (fun f s' => ∃ v, f = .done (.ret v) ∧ Q v s') E s := by
  obtain ⟨hp, g, d, tk, os⟩ := s
  have lt : e < hp.objs.size := Heap.lt_size he
  refine wpAny_bind (m := field (.ref e) 2) (wpAny_field he rfl (x := .ref it) rfl (wpAny_bind (hn fun g1 p1 (b1 : Heap.SameBut it hp g1) => ?_)))
  have q1 : IsEnum g1 e it i old := (b1.2 e hne).trans he
  refine wpAny_bind (m := field (.ref e) 3) (wpAny_field q1 rfl (x := rawInt i) rfl (wpAny_bind (m := field (.ref e) 4) (wpAny_field q1 rfl (x := .none) rfl (wpAny_bind (m := mkInt i) (wpAny_mkInt ?_)))))
  refine wpAny_bind (m := setField (.ref e) 3 (rawInt ((i : Int) + 1))) (wpAny_setField_rec q1 (by simp) fun g2 (q2 : IsEnum g2 e it ((i : Int) + 1) old) (b2 : Heap.SameBut e g1 g2) => ?_)
  refine wpAny_bind (m := setField (.ref e) 4 .none) (wpAny_setField_rec q2 (by simp) fun g3 (q3 : IsEnum g3 e it ((i : Int) + 1) old) (b3 : Heap.SameBut e g2 g3) => ?_)
  refine wpAny_bind (m := newTuple [.int i tk, x]) (wpAny_newTuple ?_)
  have z3 : g3.objs.size = hp.objs.size := by rw [b3.1, b2.1, b1.1]
  have b13 : ∀ b o, b ≠ e → g1.get? b = some o → g3.get? b = some o := fun b o n y => b3.extBut b o n (b2.extBut b o n y)
  generalize hg : g3.push { cls := .type "tuple", data := .seq #[.int i tk, x] } = g4
  have old4 : ∀ b o, g3.get? b = some o → g4.get? b = some o := fun b o y => hg ▸ Heap.get?_push_of_some _ y
  have tup4 : g4.get? hp.objs.size = some { cls := .type "tuple", data := .seq #[.int i tk, x] } := by
    rw [← hg, ← z3]
    exact Heap.get?_push_size _ rfl
  have z4 : g4.objs.size = hp.objs.size + 1 := by rw [← hg, Heap.size_push, z3]
  have q4 : IsEnum g4 e it ((i : Int) + 1) old := old4 _ _ q3
  rw [z3]
  refine wpAny_bind (m := Builtin.SmallTypes.ownedTupleIsFree (.ref e)) ?_
  unfold Builtin.SmallTypes.ownedTupleIsFree
  refine wpAny_bind (wpAny_field q4 rfl (x := .none) rfl (wpAny_pure ?_))
  simp only [if_true]
  refine wpAny_bind (wpAny_rule (wpAny_bind (wpAny_field q4 rfl (x := old) rfl (wpAny_bind (wpAny_setField_rec q4 (by simp) fun g5 (q5 : IsEnum g5 e it ((i : Int) + 1) x) (b5 : Heap.SameBut e g4 g5) => ?_)))))
  refine wpAny_bind (m := Builtin.SmallTypes.ownedTupleHandOut (.ref e) (.ref hp.objs.size)) ?_
  unfold Builtin.SmallTypes.ownedTupleHandOut
  refine wpAny_bind (wpAny_setField_rec q5 (by simp) fun g6 (q6 : IsEnumOut g6 e it ((i : Int) + 1) x hp.objs.size) (b6 : Heap.SameBut e g5 g6) => ?_)
  refine wpAny_setField_rec q6 (by simp) fun g7 (q7 : IsEnumOut g7 e it ((i : Int) + 1) x hp.objs.size) (b7 : Heap.SameBut e g6 g7) => ?_
  have b47 : ∀ b o, b ≠ e → g4.get? b = some o → g7.get? b = some o := fun b o n y => b7.extBut b o n (b6.extBut b o n (b5.extBut b o n y))
  refine wpAny_bind (wpAny_letGo (wpAny_pure ⟨_, rfl, k g7 q7 (hP g1 g7 p1 fun b o n y => b47 b o n (old4 b o (b13 b o n y))) (b47 _ _ (Nat.ne_of_gt lt) tup4) ?_ fun b o n m y => b47 b o n (old4 b o (b13 b o n (b1.extBut b o m y)))⟩))
  rw [b7.1, b6.1, b5.1, z4]
theorem jf_enumT {Q : Option Value → Shared → Prop} (he : IsEnum s.heap e it i old) (a : s.heap.IsTupleIter it t i) (b : s.heap.IsTuple t items) (hx : items[i]? = some x) (hne : e ≠ it)
    (k : ∀ h', IsEnumOut h' e it ((i : Int) + 1) x s.heap.objs.size → h'.IsTupleIter it t (i + 1) → h'.get? s.heap.objs.size = some { cls := .type "tuple", data := .seq #[.int i s.toks, x] } → h'.objs.size = s.heap.objs.size + 1 →
      (∀ b o, b ≠ e → b ≠ it → s.heap.get? b = some o → h'.get? b = some o) → Q (some (.ref s.heap.objs.size)) { s with heap := h', toks := s.toks + 1 }) : wpAny (model prog w) A (pyNext (.ref e)) Q E s := by
  have T : s.TypeIs (.ref e) "enumerate" := ⟨_, he, rfl⟩
  unfold pyNext
  refine wpAny_bind (wpAny_attempt (wpAny_callSpecial?_slot (name := Str.ofString "__next__") T F.slot_enumerate_next (wpAny_call_entry F.slot_enumerate_next T F.entry_enumerate_next
    (jf_enum (P := fun h => h.IsTupleIter it t (i + 1)) he hne (fun q => jf_next a b hx q) (fun h h' p y => ?_) fun h' c1 c2 c3 c4 c5 => wpAny_pure (k h' c1 c2 c3 c4 c5)) (F.args_enumerate_next_1 _))))
  obtain ⟨o, h1, h2⟩ := p
  exact ⟨o, y it o hne.symm h1, h2⟩
theorem jf_enumE {Q : Option Value → Shared → Prop} (hh : A.handled = none) (he : IsEnum s.heap e it i old) (a : s.heap.IsTupleIter it t i) (b : s.heap.IsTuple t items) (hx : items[i]? = none) (k : ∀ h', Heap.ExtBut it s.heap h' → Q none { s with heap := h' }) :
    wpAny (model prog w) A (pyNext (.ref e)) Q E s := by
  have T : s.TypeIs (.ref e) "enumerate" := ⟨_, he, rfl⟩
  unfold pyNext
  refine wpAny_bind (wpAny_attempt (wpAny_callSpecial?_slot (name := Str.ofString "__next__") T F.slot_enumerate_next (wpAny_call_entry F.slot_enumerate_next T F.entry_enumerate_next
    (wpAny_bind (m := field (.ref e) 2) (wpAny_field he rfl (x := .ref it) rfl (wpAny_bind (jf_none hh a b hx fun h' y g ⟨o, g1, g2⟩ => ?_)))) (F.args_enumerate_next_1 _))))
  exact wpAny_bind (wpAny_isInstance (T := "StopIteration") (b := true) ⟨o, g1, g2⟩ isSubtype_stop (wpAny_pure (k _ g)))
end
/-- enumerate(t) -/
theorem jf_newT (t : Addr) (o : Obj) (items : Array Value) (n : Nat) (hc : o.cls = .type "tuple") (hd : o.data = .seq items n) :
    Meets (Builtin.«enumerate.__new__» ⟨[.type "enumerate", .ref t], []⟩) (fun _ R s => s.heap.get? t = some o ∧
      R (.ok (.ret (.ref (s.heap.push { cls := .type "tuple_iterator", data := .fields #[.ref t, .int 0 0] }).objs.size)))
        { s with heap := (s.heap.push { cls := .type "tuple_iterator", data := .fields #[.ref t, .int 0 0] }).push { cls := .type "enumerate", data := .fields #[.none, .bool false, .ref s.heap.objs.size, rawInt 0, .none, .none] } }) :=
  .of_wp fun prog w A R s h => by
    obtain ⟨hp, g, dr, tk, os⟩ := s
    obtain ⟨ht, h⟩ := h
    have sub := sub_enumerate
    have hT : Heap.IsTuple (Shared.heap ⟨hp, g, dr, tk, os⟩) t items := ⟨_, ht, hc, n, hd⟩
    wp_walk using wpAny_loadPart' ht
    refine wpAny_stack_any fun st => wpAny_pure ?_
    split
    · rename_i c _ _ _ _ _
      cases (c == Value.type "enumerate") <;>
      · wp_walk using wpAny_loadPart' ht, wpAny_pyIter_tuple hT
        exact ⟨_, rfl, h⟩
    · wp_walk using wpAny_loadPart' ht, wpAny_pyIter_tuple hT
      exact ⟨_, rfl, h⟩
theorem jf_callT {prog : Program} {w : World} {A : Around} {E : Value → Shared → Prop} {s : Shared} {t : Addr} {items : Array Value} {Q : Value → Shared → Prop} (hT : s.heap.IsTuple t items)
    (h : ∀ h', IsEnum h' (s.heap.objs.size + 1) s.heap.objs.size 0 .none → h'.IsTupleIter s.heap.objs.size t 0 → h'.objs.size = s.heap.objs.size + 2 → (∀ b o, s.heap.get? b = some o → h'.get? b = some o) → Q (.ref (s.heap.objs.size + 1)) { s with heap := h' }) :
    wpAny (model prog w) A (call (.type "enumerate") [.ref t]) Q E s := by
  obtain ⟨o, ho, hc, n, hd⟩ := hT
  refine callType_new F.called_enumerate (by decide) (F.typeCall_enumerate_1 _) (F.newCall_enumerate_1 _) (fun obj => F.args_object_init_2 obj _) F.entry_enumerate_new (jf_newT t o items n hc hd) ⟨ho, ?_⟩
  have z : (s.heap.push { cls := .type "tuple_iterator", data := .fields #[.ref t, .int 0 0] }).objs.size = s.heap.objs.size + 1 := Heap.size_push ..
  show _ ∧ _
  rw [z]
  have he := Heap.get?_push_size (s.heap.push { cls := .type "tuple_iterator", data := .fields #[.ref t, .int 0 0] }) (o := { cls := .type "enumerate", data := .fields #[.none, .bool false, .ref s.heap.objs.size, rawInt 0, .none, .none] }) rfl
  rw [z] at he
  exact ⟨⟨_, he, rfl⟩, h _ he ⟨_, Heap.get?_push_of_some _ (Heap.get?_push_size _ rfl), rfl, rfl⟩ (by rw [Heap.size_push, z]) fun b o y => Heap.get?_push_of_some _ (Heap.get?_push_of_some _ y)⟩
end PySem
namespace Jf
open PySem PySem.Spec PyProof.Rows L2 Evl
/-- the tuple at a, each item in a new pair with its number -/
def IteT (K : PySem.W.Frag) (a : Addr) : It :=
  ⟨fun i H => ∃ (xs : List V) (x : V), SqT K H a xs ∧ xs[i]? = some x, fun i H v H' => ∃ T x, v = .ref T ∧ H T = none ∧ H' = upd H T (.tup [.int (i : Nat), x]) ∧ ∀ xs, SqT K H a xs → xs[i]? = some x, fun i H => ∃ xs : List V, SqT K H a xs ∧ xs.length ≤ i⟩
theorem turn_enumT {P : Program} {w : World} {K : PySem.W.Frag} {elts : List Expr} {kk : Nat} {tpos : Pos} (a e it : Addr) :
    Turn P w K (.Tuple elts kk tpos) (IteT K a) [e, it] e (fun i h => (∃ old, IsEnum h e it ((i : Nat) : Int) old) ∧ h.IsTupleIter it a i ∧ e ≠ it) where
  mem := by simp
  obj := fun i h st b hb => by
    obtain ⟨⟨old, he⟩, ⟨o, ho, _, hd⟩, _⟩ := st
    rcases List.mem_cons.mp hb with rfl | hb
    · exact ⟨_, he, fun v q => nomatch q⟩
    · rw [List.mem_singleton.mp hb]
      exact ⟨o, ho, fun v q => by rw [hd] at q; cases q⟩
  keep := fun i h h' st k => by
    obtain ⟨⟨old, he⟩, ⟨o, ho, hr⟩, ne⟩ := st
    exact ⟨⟨old, k e (by simp) _ he⟩, ⟨o, k it (by simp) o ho, hr⟩, ne⟩
  item := by
    intro X hP hw hK hc i pins s σ H E I hf st hg
    subst hP hw hK
    obtain ⟨⟨old, he⟩, hit, ne⟩ := st
    obtain ⟨xs, x, hq, hx⟩ := hg
    obtain ⟨its, rv, tp, _⟩ := I.tuple hq
    obtain ⟨u, hu, ru⟩ := rv.get hx
    have le : e < s.heap.objs.size := Heap.lt_size he
    have li : it < s.heap.objs.size := by
      obtain ⟨_, q, _⟩ := hit
      exact Heap.lt_size q
    refine jf_enumT he hit tp (x := u) (by simpa using hu) ne fun h1 c1 c2 c3 c4 c5 => ⟨_, rfl, wpAny_letOwnedTupleGo_enum (s := { s with heap := h1, toks := s.toks + 1 }) c1 fun h2 d1 d2 => ?_⟩
    have at2 : h2.get? s.heap.objs.size = some { cls := .type "tuple", data := .seq #[.int i s.toks, u] } := (d2.2 _ (Nat.ne_of_gt le)).trans c3
    have I2 : Inv X pins σ (upd H s.heap.objs.size (.tup [.int (i : Nat), x])) { s with heap := h2, toks := s.toks + 1 } := by
      refine I.turnedNew (ch := [e, it]) (fun b o hb q => ?_) hf (Nat.le_refl _) ⟨by show 2 ≤ sizeLine; decide, [.int i s.toks, u], .cons ⟨_, rfl⟩ (.cons ru .nil), ⟨_, at2, rfl, _, rfl⟩⟩
      simp only [List.mem_cons, List.not_mem_nil, or_false, not_or] at hb
      exact (d2.2 b hb.1).trans (c5 b o hb.1 hb.2 q)
    refine ⟨.ref s.heap.objs.size, _, I2, rfl, ⟨_, x, rfl, I.hok.fresh (Nat.le_refl _), rfl, fun ys hy => by rw [I.tuple_inj hy hq]; exact hx⟩, ⟨⟨u, ?_⟩, ?_, ne⟩, fun b hb => ?_⟩
    · rw [show ((i + 1 : Nat) : Int) = (i : Int) + 1 by omega]
      exact d1
    · obtain ⟨o, g1, g2⟩ := c2
      exact ⟨o, (d2.2 it ne.symm).trans g1, g2⟩
    · have lb : b < s.heap.objs.size := by
        rcases List.mem_cons.mp hb with rfl | hb
        · exact le
        · rw [List.mem_singleton.mp hb]
          exact li
      rw [upd_ne (Nat.ne_of_lt lb)]
      exact (hf b hb).1
  done := by
    intro X hP hw hK hc i pins s σ H E I hf st hg
    subst hP hw hK
    obtain ⟨⟨old, he⟩, hit, _⟩ := st
    obtain ⟨xs, hq, hx⟩ := hg
    obtain ⟨its, rv, tp, _⟩ := I.tuple hq
    obtain ⟨f0, f1, f2, f3, f4, f5⟩ := hf it (by simp)
    have := rv.length
    exact jf_enumE (I.ok.hd hc) he hit tp (by simp; omega) fun h' g => ⟨rfl, I.turned (t' := s.toks) (fun b o hb q => g b o hb q) f0 f1 f3 f4 f5⟩
  self := fun A i s Q E st h => by
    obtain ⟨⟨_, he⟩, _⟩ := st
    exact wpAny_pyIter_enum he h
def iEnumT (K : PySem.W.Frag) (ta : TA) : TI := fun σ H R => ta σ H fun vs H1 => ∃ a xs, vs = [.ref a] ∧ SqT K H1 a xs ∧ R (IteT K a) H1
theorem pi_enumT {X : Cx} {e : Expr} {ta : TA} {p pos tpos : Pos} {elts : List Expr} {kk : Nat} (hg : Gl X "enumerate") (hm : X.mg "enumerate" = none) (ha : PA X [e] ta) (hs : starEach [e] X.env = [(false, eval e X.env)] := by rfl) :
    PI X (.Tuple elts kk tpos) (.Call (.Name "enumerate" p) [e] [] pos) (iEnumT X.K ta) := by
  refine ⟨fun pins s σ H R I h => ?_⟩
  refine Call_ (ld_blt I hg hm boot_enumerate (PyProof.Rows.callWith_type1 (thn (ha.run pos pins s σ H _ I h) fun us s1 ⟨vs, H1, I1, r1, a, xs, ex, hq, q⟩ => ?_) hs rfl))
  subst ex
  obtain ⟨u, rfl, ru⟩ := vals1 r1
  cases ru
  obtain ⟨its, _, tp, _⟩ := I1.tuple hq
  refine jf_callT tp fun h' c1 c2 c3 c4 => wpAny_pyIter_enum c1 ⟨s1.heap.objs.size + 1, [s1.heap.objs.size + 1, s1.heap.objs.size], _, _, H1, rfl, I1.kept (t' := s1.toks) c4, turn_enumT a (s1.heap.objs.size + 1) s1.heap.objs.size, ⟨⟨.none, c1⟩, c2, Nat.succ_ne_self _⟩, fun b hb => ?_, q⟩
  have hle : s1.heap.objs.size ≤ b := by
    rcases List.mem_cons.mp hb with rfl | hb
    · exact Nat.le_succ _
    · rw [List.mem_singleton.mp hb]
      exact Nat.le_refl _
  exact I1.fpOk hle (I1.hok.fresh hle)
end Jf
set_option Elab.async false
set_option linter.all false
set_option maxRecDepth 100000
set_option maxHeartbeats 4000000
namespace Jf
open PySem PySem.Spec PyProof.Rows L2 Evl GxR GenW
/-! ### all(e for .. in an iterable of any kind that the layer walks), e of any kind that it reads -/
/-- the inner scope: its names, nothing captured -/
structure ManyN (scope : Scope) (xs : List Str) : Prop where
  kind : scope.kind = .function
  co : scope.isCoroutine = false
  cell : ∀ y ∈ scope.names, y.2 ≠ .cell
  dot : scope.names.lookup (".0" : Str) = some NameKind.local
  free : ∀ y ∈ scope.names, y.2 ≠ .free
/-- the inner context: the callers' frames behind it, the walked objects free to turn -/
def gyOf (X : Cx) (xs : List Str) (s : Shared) (H : Hp) (cenv : Env) (B : Around) (fp : List Addr) : Cx where
  prog := X.prog
  w := X.w
  K := X.K
  mg := X.mg
  base := X.base
  A := B
  N := ".0" :: xs
  s_0 := s
  H_0 := H
  env := cenv
  outer := X.stack
  stack := cenv :: X.stack
  ex := fp
  fn := fun _ => true
  calm := true
  pn := []
  xe := fun _ _ => False
/-- the reading: from the left, till one says no -/
def rdAllI (g : TG) (te : TE) (J : It) (L : Nat) : Nat → Nat → Hp → (Bool → Hp → Prop) → Prop
  | 0, i, H, Q => J.stop i H ∧ Q true H
  | n + 1, i, H, Q => J.go i H ∧ ∀ x H1, J.yld i H x H1 → ∀ σ : L2.St, σ.length = L → σ[0]? = some none → g x σ H1 fun σ2 H2 => σ2.length = L ∧ σ2[0]? = some none ∧ te σ2 H2 fun r H3 => ∃ b, r = .bl b ∧ (b = true → rdAllI g te J L n (i + 1) H3 Q) ∧ (b = false → Q false H3)
/-- where the generator stands -/
def GInv2 (Y : Cx) (a : Addr) (go : Obj) (fp : List Addr) (tn : Nat → Heap → Prop) (L i : Nat) (H : Hp) (s : Shared) : Prop :=
  ∃ (σ : L2.St) (ps : List (Addr × Obj)), σ.length = L ∧ σ[0]? = some none ∧ ps.map (·.1) = fp ∧ tn i s.heap ∧ Inv Y ((a, go) :: ps) σ H s
def gProt2 (Y : Cx) (a : Addr) (go : Obj) (fp : List Addr) (tn : Nat → Heap → Prop) (L : Nat) (Q : Bool → Hp → Prop) : Protocol := fun _ _ v s kap =>
  ∃ b i H, v = .bool b ∧ GInv2 Y a go fp tn L i H s ∧ (b = false → Q false H) ∧ (b = true → ∀ s', s'.os = s.os → AllBare s'.gens → s'.heap = s.heap → kap (.send .none) s')
section
variable {Y : Cx} {a it : Addr} {go : Obj} {fp : List Addr} {tn : Nat → Heap → Prop} {L i : Nat} {H : Hp} {s s' : Shared}
theorem GInv2.woke (h : GInv2 Y a go fp tn L i H s) (o : s'.os = s.os) (g : AllBare s'.gens) (e : s'.heap = s.heap) : GInv2 Y a go fp tn L i H s' := by
  obtain ⟨σ, ps, l, z, c, d, J⟩ := h
  refine ⟨σ, ps, l, z, c, by rw [e]; exact d, J.call' (ch := []) o ?_ ?_ g fun b z => by simp at z⟩
  · rw [e]
    exact Un.kept fun _ _ q => q
  · rw [e]
    exact J.hok
theorem objs_of {h : Heap} : ∀ {fp : List Addr}, (∀ b ∈ fp, ∃ o, h.get? b = some o ∧ ∀ v, o.data ≠ .cell v) → ∃ ps : List (Addr × Obj), ps.map (·.1) = fp ∧ ∀ p ∈ ps, h.get? p.1 = some p.2 ∧ ∀ v, p.2.data ≠ .cell v
  | [], _ => ⟨[], rfl, fun _ z => nomatch z⟩
  | b :: fp, q => by
    obtain ⟨o, h1, h2⟩ := q b List.mem_cons_self
    obtain ⟨ps, h3, h4⟩ := objs_of fun c hc => q c (List.mem_cons_of_mem _ hc)
    refine ⟨(b, o) :: ps, by rw [List.map_cons, h3], fun p hp => ?_⟩
    rcases List.mem_cons.mp hp with rfl | hp
    · exact ⟨h1, h2⟩
    · exact h4 p hp
end
section
variable {Y : Cx} {Aw : Around} {elt iter tg : Expr} {pos : Pos} {scope : Scope} {a it : Addr} {go : Obj} {fp : List Addr} {tn : Nat → Heap → Prop} {J : It} {L : Nat} {te : TE} {g : TG} {Q : Bool → Hp → Prop}
theorem seg_itLoop (hA : Aw.handled = none) (hY : Y.A = Aw.over (.compLoop (.GeneratorExp elt [⟨tg, iter, [], 0⟩] scope pos) 0 (.ref it) .none Y.env) []) (hco : Y.env.scope.isCoroutine = false) (hcl : Y.env.cells = []) (hex : ∀ b ∈ fp, b ∈ Y.ex) (ha : a ∉ fp) (hpn : Y.pn = [])
    (hcalm : Y.calm = true) (hxe : Y.xe = fun _ _ => False) (T : Turn Y.prog Y.w Y.K tg J fp it tn) (hg : PG Y tg g) (hel : PE Y elt te) :
    ∀ (n i : Nat) (H : Hp) (s₀ s : Shared), GInv2 Y a go fp tn L i H s → rdAllI g te J L n i H Q →
      Seg (model Y.prog Y.w) Aw (gEnd Y Q) (gProt2 Y a go fp tn L Q) n s₀ (.compLoop (.GeneratorExp elt [⟨tg, iter, [], 0⟩] scope pos) 0 (.ref it) .none Y.env)
        ((model Y.prog Y.w).den (.compLoop (.GeneratorExp elt [⟨tg, iter, [], 0⟩] scope pos) 0 (.ref it) .none Y.env)) [] s := by
  have free : ∀ {σ : L2.St} {ps : List (Addr × Obj)} {i : Nat} {H : Hp} {s : Shared}, ps.map (·.1) = fp → Inv Y ((a, go) :: ps) σ H s → Inv Y [(a, go)] σ H s ∧ ∀ b ∈ fp, FpOk Y [(a, go)] H b := fun {σ ps i H s} hm I => by
    refine ⟨I.pins_of fun p hp => I.pin p (List.mem_append_right _ (by
      rw [List.mem_singleton] at hp
      rw [hp]
      exact List.mem_cons_self)), fun b hb => ?_⟩
    rw [← hm] at hb
    obtain ⟨p, hp, rfl⟩ := List.mem_map.mp hb
    have q := I.pin p (List.mem_append_right _ (List.mem_cons_of_mem _ hp))
    refine ⟨q.2.1, q.2.2.1, q.2.2.2.1, .inl (hex _ (hm ▸ List.mem_map.mpr ⟨p, hp, rfl⟩)), (fun x c e => by rw [hcl] at e; cases e), fun r hr z => ?_⟩
    rw [hpn, List.nil_append, List.mem_singleton] at hr
    subst hr
    exact ha (by rw [← hm]; exact List.mem_map.mpr ⟨p, hp, z.symm⟩)
  intro n
  induction n with
  | zero =>
    intro i H s₀ s hG hr
    obtain ⟨σ, ps, l, z, hm, ht, I⟩ := hG
    obtain ⟨I1, hf⟩ := free (i := i) hm I
    show Seg _ Aw _ _ _ s₀ _ ((compTurn (.GeneratorExp elt [⟨tg, iter, [], 0⟩] scope pos) 0 (.ref it) .none Y.env).onRaise (leaving Y.env)) [] s
    rw [compTurn_gen, Sem.onRaise_eq_wrap]
    refine seg_bind_wrap (wpAny_standAt ?_)
    refine seg_bind_wrap ?_
    rw [← hY]
    refine wpAny_mono (T.done Y rfl rfl rfl hcalm i [(a, go)] s σ H (fun _ _ => False) I1 hf ht hr.1) ?_ fun _ _ x => x.elim
    rintro r s1 ⟨rfl, I2⟩
    exact seg_end (.ok .next) (.inl ⟨.inr rfl, σ, H, I2.pins_of fun p hp => by simp at hp, hr.2⟩)
  | succ n ih =>
    intro i H s₀ s hG hr
    obtain ⟨σ, ps, l, z, hm, ht, I⟩ := hG
    obtain ⟨I1, hf⟩ := free (i := i) hm I
    have pa := I1.pin (a, go) (List.mem_append_right _ List.mem_cons_self)
    show Seg _ Aw _ _ _ s₀ _ ((compTurn (.GeneratorExp elt [⟨tg, iter, [], 0⟩] scope pos) 0 (.ref it) .none Y.env).onRaise (leaving Y.env)) [] s
    rw [compTurn_gen, Sem.onRaise_eq_wrap]
    refine seg_bind_wrap (wpAny_standAt ?_)
    refine seg_bind_wrap ?_
    rw [← hY]
    refine wpAny_mono (T.item Y rfl rfl rfl hcalm i [(a, go)] s σ H (fun _ _ => False) I1 hf ht hr.1) ?_ fun _ _ x => x.elim
    rintro r s1 ⟨u, rfl, w1⟩
    refine seg_bind_wrap ?_
    rw [← hY]
    refine wpAny_mono w1 ?_ fun _ _ x => x.elim
    rintro _ s2 ⟨x, H1, I2, ru, hy, ht2, hnone⟩
    obtain ⟨ps2, hm2, ho2⟩ := objs_of (T.obj (i + 1) s2.heap ht2)
    have I3 : Inv Y ((a, go) :: ps2) σ H1 s2 := I2.pins_of fun p hp => by
      rcases List.mem_cons.mp hp with rfl | hp
      · exact I2.pin _ (List.mem_append_right _ List.mem_cons_self)
      · have hb : p.1 ∈ fp := hm2 ▸ List.mem_map.mpr ⟨p, hp, rfl⟩
        obtain ⟨_, f1, f2, _⟩ := hf _ hb
        exact ⟨(ho2 p hp).1, hnone _ hb, f1, f2, (ho2 p hp).2⟩
    refine seg_bind_wrap ?_
    rw [← hY]
    refine wpAny_mono (hg.run _ _ σ H1 x u _ I3 ru (hr.2 x H1 hy σ l z)) ?_ fun e s' hx => by rw [hxe] at hx; exact hx.elim
    rintro _ s3 ⟨σ3, H3, I4, l3, z3, q3⟩
    refine seg_bind_wrap ?_
    simp only [List.forIn_nil]
    refine wpAny_pure ?_
    simp only [if_true]
    have hyo : ∀ v, yieldOut Y.env v = yieldValue v := fun v => by simp only [yieldOut, hco, Bool.false_eq_true, if_false]
    simp only [hyo]
    rw [Sem.bind_eq_wrap', Sem.bind_eq_wrap', Sem.wrap_wrap, Sem.wrap_wrap]
    refine seg_wrap ?_
    rw [← hY]
    refine wpAny_mono (hel.run _ _ _ _ _ I4 q3) (fun y s4 h4 => ?_) fun e s' hx => by rw [hxe] at hx; exact hx.elim
    obtain ⟨r, H4, I5, rr, b, rfl, htr, hfa⟩ := h4
    obtain rfl : y = Value.bool b := rr
    have G4 : GInv2 Y a go fp tn L (i + 1) H4 s4 := by
      refine ⟨σ3, ps2, l3, z3, hm2, T.keep (i + 1) s2.heap s4.heap ht2 fun b hb o e => ?_, I5⟩
      rw [← hm2] at hb
      obtain ⟨p, hp, rfl⟩ := List.mem_map.mp hb
      rw [(ho2 p hp).1] at e
      cases e
      exact (I5.pin p (List.mem_append_right _ (List.mem_cons_of_mem _ hp))).1
    refine seg_at (seg_yield rfl rfl rfl ⟨b, i + 1, H4, rfl, G4, hfa, fun hb s' o g e => ?_⟩)
    exact seg_again rfl (ih (i + 1) H4 s' s' (G4.woke o g e) (htr hb))
theorem seg_itStart (hA : Aw.handled = none) (hY : Y.A = Aw.over (.compLoop (.GeneratorExp elt [⟨tg, iter, [], 0⟩] scope pos) 0 (.ref it) .none Y.env) []) (hco : Y.env.scope.isCoroutine = false) (hcl : Y.env.cells = []) (hex : ∀ b ∈ fp, b ∈ Y.ex) (ha : a ∉ fp) (hpn : Y.pn = [])
    (hcalm : Y.calm = true) (hxe : Y.xe = fun _ _ => False) (T : Turn Y.prog Y.w Y.K tg J fp it tn) (hg : PG Y tg g) (hel : PE Y elt te) {n : Nat} {H : Hp} {s₀ s : Shared} (hG : GInv2 Y a go fp tn L 0 H s) (hr : rdAllI g te J L n 0 H Q) :
    Seg (model Y.prog Y.w) Aw (gEnd Y Q) (gProt2 Y a go fp tn L Q) n s₀ (.compStart (.GeneratorExp elt [⟨tg, iter, [], 0⟩] scope pos) 0 (.ref it) .none Y.env)
      ((model Y.prog Y.w).den (.compStart (.GeneratorExp elt [⟨tg, iter, [], 0⟩] scope pos) 0 (.ref it) .none Y.env)) [] s := by
  have again : Seg (model Y.prog Y.w) Aw (gEnd Y Q) (gProt2 Y a go fp tn L Q) n s₀ (.compStart (.GeneratorExp elt [⟨tg, iter, [], 0⟩] scope pos) 0 (.ref it) .none Y.env) (.pure (.again (.compLoop (.GeneratorExp elt [⟨tg, iter, [], 0⟩] scope pos) 0 (.ref it) .none Y.env))) [] s :=
    seg_again rfl (seg_itLoop hA hY hco hcl hex ha hpn hcalm hxe T hg hel n 0 H s₀ s hG hr)
  obtain ⟨σ, ps, l, z, hm, ht, I⟩ := hG
  show Seg _ Aw _ _ _ s₀ _ ((compStart _ 0 (.ref it) .none Y.env).onRaise (leaving Y.env)) [] s
  unfold compStart
  rw [Sem.onRaise_eq_wrap]
  apply seg_bind_wrap (m := ask)
  apply wpAny_askSetting
  split
  · exact again
  · apply seg_bind_wrap
    apply wpAny_rule
    apply seg_bind_wrap
    apply wpAny_standAt
    apply seg_bind_wrap
    exact T.self _ 0 s _ _ ht again
end
theorem all_loop2 {Y : Cx} {A : Around} {a : Addr} {fp : List Addr} {tn : Nat → Heap → Prop} {L : Nat} {go : Obj} {g : Nat} {R : Result → Shared → Prop} {Q : Bool → Hp → Prop} (hh : A.handled = none) (hd : A.depth < recursionLimit) (G : GenO go g)
    (fin : ∀ b σ H s, Inv Y [] σ H s → Q b H → R (.ok (.ret (.bool b))) s) :
    ∀ (n : Nat) (s : Shared), s.heap.get? a = some go → s.heap.NoLimit → (∃ gs, s.gens[g]? = some gs ∧ gs.Goes (model Y.prog Y.w) A.in1.in1 (gEnd Y Q) (gProt2 Y a go fp tn L Q) n (.send .none) (s.setGen g .running)) →
      codeAny (model Y.prog Y.w) A (.builtin "all.loop" ⟨[.ref a], []⟩) R s := by
  intro n
  induction n with
  | zero =>
    intro s ha hl ⟨gs, hgs, hgo⟩
    apply codeAny_builtin F.entry_all_loop
    rw [Around.under_plainId F.plain_all_loop _]
    show wpAny _ A.in1 (pyNext (.ref a) >>= _) _ _ s
    apply wpAny_bind
    apply next_genG (A := A.in1) (F := gDone Y Q) (Er := fun _ _ => False) hh hl hd (G.at ha) hgs hgo
    · intro v s1 gs' hb hv
      obtain ⟨b, i, H, rfl, hG, hf, ht⟩ := hv
      cases b with
      | true =>
        obtain ⟨_, _, _, _, _, _, J⟩ := hG
        exact False.elim (ht rfl s1 rfl J.bare rfl)
      | false =>
        obtain ⟨σ, io, _, _, _, _, J⟩ := hG
        apply wpAny_bind
        apply wpAny_holding
        apply wpAny_truthy_bool
        apply wpAny_bind
        apply wpAny_letGo
        show wpAny _ _ (rule _ >>= _) _ _ _
        apply wpAny_bind
        apply wpAny_rule
        apply wpAny_pure
        exact fin false σ H _ (inv_gens (J.pins_of fun p hp => by simp at hp) rfl (allBare_setGen J.bare hb) fun _ _ e => e) (hf rfl)
    · intro s1 hp h' hk
      obtain ⟨σ, H, J, q⟩ := hp
      show wpAny _ _ (rule _ >>= _) _ _ _
      apply wpAny_bind
      apply wpAny_rule
      apply wpAny_pure
      exact fin true σ H _ (inv_gens J rfl (allBare_setGen J.bare rfl) hk) q
    · intro e s1 he
      exact he.elim
  | succ n ih =>
    intro s ha hl ⟨gs, hgs, hgo⟩
    have hgl : g < s.gens.size := (Array.getElem?_eq_some_iff.mp hgs).1
    apply codeAny_builtin F.entry_all_loop
    rw [Around.under_plainId F.plain_all_loop _]
    show wpAny _ A.in1 (pyNext (.ref a) >>= _) _ _ s
    apply wpAny_bind
    apply wpAny_gsz (n := g + 1) hgl
    apply next_genG (A := A.in1) (F := gDone Y Q) (Er := fun _ _ => False) hh hl hd (G.at ha) hgs hgo
    · intro v s1 gs' hb hv hsz
      obtain ⟨b, i, H, rfl, hG, hf, ht⟩ := hv
      have hG' := hG
      obtain ⟨σ, io, _, _, _, _, J⟩ := hG'
      have pa := J.pin (a, go) (List.mem_append_right _ (by simp))
      apply wpAny_bind
      apply wpAny_holding
      apply wpAny_truthy_bool
      apply wpAny_bind
      apply wpAny_letGo
      cases b with
      | false =>
        show wpAny _ _ (rule _ >>= _) _ _ _
        apply wpAny_bind
        apply wpAny_rule
        apply wpAny_pure
        exact fin false σ H _ (inv_gens (J.pins_of fun p hp => by simp at hp) rfl (allBare_setGen J.bare hb) fun _ _ e => e) (hf rfl)
      | true =>
        simp only [if_true]
        have hsz1 : g < s1.gens.size := by
          have q : (s1.setGen g gs').gens.size = s1.gens.size := setGen_size _ _ _
          have : g + 1 ≤ (s1.setGen g gs').gens.size := hsz
          omega
        refine wpAny_pure ⟨plainId_quiet F.plain_all_loop _, ih (s1.setGen g gs') pa.1 J.nolimit ⟨gs', setGen_at hsz1, ?_⟩⟩
        exact ht rfl _ rfl (allBare_setGen (s := s1.setGen g gs') (allBare_setGen J.bare hb) rfl) rfl
    · intro s1 hp h' hk hsz
      obtain ⟨σ, H, J, q⟩ := hp
      show wpAny _ _ (rule _ >>= _) _ _ _
      apply wpAny_bind
      apply wpAny_rule
      apply wpAny_pure
      exact fin true σ H _ (inv_gens J rfl (allBare_setGen J.bare rfl) hk) q
    · intro e s1 he
      exact he.elim

theorem envs_loopI {elt iter tg : Expr} {pos : Pos} {scope : Scope} {it acc : Value} {env : Env} {A : Around} {l : List Env} (h : A.frames = some l) : (A.over (.compLoop (.GeneratorExp elt [⟨tg, iter, [], 0⟩] scope pos) 0 it acc env) []).frames = some (env :: l) := by
  show pushEnvs (Code.envs (.compLoop (.GeneratorExp elt [⟨tg, iter, [], 0⟩] scope pos) 0 it acc env)) (pushEnvs [] A.frames) = _
  rw [h]
  rfl
theorem room_loopI {k : Nat} {A : Around} {elt iter tg : Expr} {pos : Pos} {scope : Scope} {it acc : Value} {env : Env} (r : Room (k + 1) A) : Room k (A.in1.in1.over (.compLoop (.GeneratorExp elt [⟨tg, iter, [], 0⟩] scope pos) 0 it acc env) []) := by
  have h1 : (A.in1.in1.over (.compLoop (.GeneratorExp elt [⟨tg, iter, [], 0⟩] scope pos) 0 it acc env) []).depth = A.in1.in1.depth + 1 := rfl
  have h2 : (A.in1.in1.over (.compLoop (.GeneratorExp elt [⟨tg, iter, [], 0⟩] scope pos) 0 it acc env) []).units = A.in1.in1.units + 3 := rfl
  have h3 : A.in1.in1.depth = A.depth := rfl
  have h4 : A.in1.in1.units = A.units + 1 + 1 := rfl
  have h5 := r.dp
  have h6 := r.un
  exact ⟨r.hd, by rw [h1, h3]; omega, by rw [h2, h4]; omega⟩
section
variable {X : Cx} {pins : List (Addr × Obj)} {σ : L2.St} {H : Hp} {s : Shared}
/-- made, not begun; what its whole walk by all leaves -/
def ReadyI (X : Cx) (pins : List (Addr × Obj)) (σ : L2.St) (R : Nat → (Bool → Hp → Prop) → Prop) (n L : Nat) (a : Addr) (s5 : Shared) : Prop :=
  ∃ (go : Obj) (g : Nat) (fp : List Addr) (tn : Nat → Heap → Prop), GenO go g ∧ s5.heap.get? a = some go ∧ s5.heap.NoLimit ∧ g < s5.gens.size ∧ ∀ Q : Bool → Hp → Prop, R n Q → ∃ (Y : Cx),
    Y.prog = X.prog ∧ Y.w = X.w ∧ (∃ gs, s5.gens[g]? = some gs ∧ gs.Goes (model Y.prog Y.w) X.A.in1.in1 (gEnd Y Q) (gProt2 Y a go fp tn L Q) n (.send .none) (s5.setGen g .running)) ∧
    ∀ b σ' H' s', Inv Y [] σ' H' s' → Q b H' → ∃ H'', Inv X pins σ H'' s' ∧ Q b H''
theorem gen_it {c P : Addr} {elt iter tg : Expr} {xs : List Str} {gpos : Pos} {scope : Scope} {te : TE} {g : TG} {wi : TI} {k : Nat} {Q' : Value → Shared → Prop} {R : It → Nat → Hp → Prop}
    (hr : Room (k + 1) X.A) (TB : GxR.TabB X.base X.mg c P) (hcode : X.env.code = .ref c) (S : ManyN scope xs) (hi : PI X tg iter wi)
    (hg : ∀ (s : Shared) (H : Hp) (cenv : Env) (B : Around) (fp : List Addr), cenv.scope = scope → PG (gyOf X xs s H cenv B fp) tg g)
    (hel : ∀ (s : Shared) (H : Hp) (C : Addr) (code : Value) (I : Addr) (fp : List Addr), Room k (X.A.in1.in1.over (.compLoop (.GeneratorExp elt [⟨tg, iter, [], 0⟩] scope gpos) 0 (.ref I) .none (genEnv scope [] C code builtinsNs X.env)) []) →
      PE (gyOf X xs s H (genEnv scope [] C code builtinsNs X.env) (X.A.in1.in1.over (.compLoop (.GeneratorExp elt [⟨tg, iter, [], 0⟩] scope gpos) 0 (.ref I) .none (genEnv scope [] C code builtinsNs X.env)) []) fp) elt te)
    (hs : ∀ v, genFold iter X.env v = pure v) (I0 : Inv X pins σ H s)
    (h : wi σ H fun J H1 => GxR.TabG H1 P ∧ ∀ H2, GxR.Tabbed P H1 H2 → ∃ n, R J n H2)
    (hQ : ∀ J n H2 a s5, R J n H2 → ReadyI X pins σ (fun n Q => rdAllI g te J (xs.length + 1) n 0 H2 Q) n (xs.length + 1) a s5 → Q' (.ref a) s5) :
    wpAny (model X.prog X.w) X.A (eval (.GeneratorExp elt [⟨tg, iter, [], 0⟩] scope gpos) X.env) Q' X.xe s := by
  have hcl : closureFor scope X.env = pure [] := by
    rw [closure_ok fun y hy hf => absurd hf (S.free y hy), clo_none S.free]
  have hroom : X.A.depth < recursionLimit := by
    have := hr.dp
    omega
  apply wpAny_GeneratorExp_make S.co hcl S.cell S.dot S.kind hroom ?_ hs
  refine wpAny_mono (hi.run pins s σ H _ I0 h) (fun v s0 w0 => wpAny_mono w0 ?_ fun _ _ z => z) fun _ _ z => z
  rintro _ s1 ⟨it, fp, tn, J, H1, rfl, I1, T, st, hf, ⟨tb, hP, ht⟩, q1⟩
  refine ⟨I1.nolimit, ?_⟩
  have tabS : s1.heap.get? P = some { cls := .none, data := .fields tb } := I1.hok P _ hP
  have Plt : P < s1.heap.objs.size := Heap.lt_size tabS
  refine gcode (s2 := s1) hcode (TB.code.keeps fun b u e => I1.bk b u e) tabS ht fun code h3 n3 tb3 hx hsz hP3 hmore ht3 => ?_
  obtain ⟨bm, ob, e1, e2, e3, e4, e5, e6, e7, e8⟩ := TB.bm
  have cP : cStatics ≠ P := fun e => by
    obtain ⟨_, hns, _⟩ := I1.nolimit
    obtain ⟨o', es, ep, ho', hd', _⟩ := hns
    rw [e, tabS] at ho'
    cases ho'
    cases hd'
  apply wpAny_builtinsFor (m := X.mg) (by rw [I1.ok.glob]; exact (I1.mod.glob.keeps I1.bk).extBut hx TB.gP) e1 e2 (hx _ _ e4 (I1.bk _ _ e5)) e6 e7 e8
  intro h5 hns hsb
  obtain ⟨more, em⟩ := hmore
  subst em
  have I4 := GxR.inv_tab (more := more) (h' := h3) (g' := s1.gens) (d' := s1.drawn) (t' := n3) I1 hP hx hP3 I1.bare
  generalize hgo : ({ cls := .type "generator", data := .fields #[.int s1.gens.size 0, .str "<genexpr>" (n3 + 1), .str (X.env.qual ++ "<genexpr>") (n3 + 1 + 1)] } : Obj) = go
  have GO : GenO go s1.gens.size := by
    subst hgo
    exact ⟨rfl, ⟨_, _, rfl⟩, rfl⟩
  have k5 : ∀ b u, h3.get? b = some u → h5.get? b = some u := fun b u e => hsb.extBut b u (Nat.ne_of_lt (Heap.lt_size e)) (Heap.get?_push_of_some _ e)
  have k6 : ∀ b u, h3.get? b = some u → (h5.push go).get? b = some u := fun b u e => Heap.get?_push_of_some _ (k5 b u e)
  have sz5 : h5.objs.size = h3.objs.size + 1 := by rw [hsb.1, Heap.size_push]
  have hga : (h5.push go).get? h5.objs.size = some go := by
    subst hgo
    exact Heap.get?_push_size _ rfl
  have god : ∀ v, go.data ≠ .cell v := fun v q => by
    obtain ⟨nm, qn, d⟩ := GO.data
    rw [d] at q
    cases q
  -- the walked objects
  have fpP : ∀ b ∈ fp, b ≠ P := fun b hb z => by
    have := (hf b hb).1
    rw [z, hP] at this
    cases this
  have lt1 : ∀ b ∈ fp, b < s1.heap.objs.size := fun b hb => by
    obtain ⟨o, e, _⟩ := T.obj 0 s1.heap st b hb
    exact Heap.lt_size e
  have k3 : ∀ b ∈ fp, ∀ o, s1.heap.get? b = some o → h3.get? b = some o := fun b hb o e => hx b o (fpP b hb) e
  have lt3 : ∀ b ∈ fp, b < h3.objs.size := fun b hb => by
    obtain ⟨o, e, _⟩ := T.obj 0 s1.heap st b hb
    exact Heap.lt_size (k3 b hb o e)
  have none2 : ∀ b ∈ fp, (upd H1 P (.tbl (tb ++ more))) b = none := fun b hb => by
    rw [upd_ne (fpP b hb)]
    exact (hf b hb).1
  have nst : ∀ b ∈ fp, b ∉ frs X.stack := fun b hb hm => by
    rcases List.mem_cons.mp (I1.stkSub b hm) with z | z
    · exact (hf b hb).2.1 z
    · exact (hf b hb).2.2.1 z
  have nstN : ∀ b, h3.objs.size ≤ b → b ∉ frs X.stack := fun b hb hm => by
    rcases List.mem_cons.mp (I4.stkSub b hm) with z | z
    · rw [z] at hb
      exact absurd (Nat.lt_of_lt_of_le I4.lt hb) (Nat.lt_irrefl _)
    · exact I4.nofs hb z
  have st3 : tn 0 h3 := T.keep 0 s1.heap h3 st k3
  have st6 : tn 0 (h5.push go) := T.keep 0 h3 (h5.push go) st3 fun b _ o e => k6 b o e
  obtain ⟨ps, hm, ho⟩ := objs_of (T.obj 0 _ st6)
  have aN : h5.objs.size ∉ fp := fun z => by
    have q : h5.objs.size < h3.objs.size := lt3 _ z
    rw [sz5] at q
    exact Nat.not_succ_lt_self q
  obtain ⟨n, qn⟩ := q1 _ ⟨⟨_, upd_same, ht3⟩, fun b hb => upd_ne hb⟩
  refine hQ J n _ _ _ qn ⟨go, s1.gens.size, fp, tn, GO, hga, I4.nolimit.keeps k6, by show _ < (s1.gens.push _).size; rw [Array.size_push]; exact Nat.lt_succ_self _, fun Q hrd => ?_⟩
  have KY : (gyOf X xs { s1 with heap := h3, gens := s1.gens, drawn := s1.drawn, toks := n3 } (upd H1 P (.tbl (tb ++ more))) (genEnv scope [] h3.objs.size code builtinsNs X.env)
      (X.A.in1.in1.over (.compLoop (.GeneratorExp elt [⟨tg, iter, [], 0⟩] scope gpos) 0 (.ref it) .none (genEnv scope [] h3.objs.size code builtinsNs X.env)) []) fp).Ok := by
    refine ⟨I4.ok.mod, S.kind, I4.ok.glob, rfl, Nat.le_refl _, fun y z c e _ => (by cases e), fun y hy => ?_, fun y c _ e => (by cases e), fun _ => hr.hd, envs_loopI I4.ok.frames, .inr ⟨rfl, rfl⟩, fun b hb => ⟨Nat.ne_of_lt (lt3 b hb), fun y c e => (by cases e)⟩, fun b o e => I4.bs b o e, Nat.le_trans I4.ok.bsz I4.sz, fun b o e hb => ?_, fun b hb => nst b hb, I4.stack, I4.stkFree⟩
    · have hy' : scope.names.lookup y = some .cell ∨ scope.names.lookup y = some .free := hy
      rcases hy' with z | z
      · exact absurd rfl (S.cell _ (PySem.mem_of_lookup z))
      · exact absurd rfl (S.free _ (PySem.mem_of_lookup z))
    · rcases (hf b hb).2.2.2.1 with z | z
      · exact I1.ok.noex b o e z
      · exact absurd (Nat.lt_of_lt_of_le (Heap.lt_size e) (Nat.le_trans I1.ok.bsz z)) (Nat.lt_irrefl _)
  refine ⟨gyOf X xs { s1 with heap := h3, gens := s1.gens, drawn := s1.drawn, toks := n3 } (upd H1 P (.tbl (tb ++ more))) (genEnv scope [] h3.objs.size code builtinsNs X.env)
      (X.A.in1.in1.over (.compLoop (.GeneratorExp elt [⟨tg, iter, [], 0⟩] scope gpos) 0 (.ref it) .none (genEnv scope [] h3.objs.size code builtinsNs X.env)) []) fp, rfl, rfl,
    ⟨_, Array.getElem?_push_size .., rfl, seg_itStart (Aw := X.A.in1.in1) hr.hd rfl S.co rfl (fun b hb => hb) aN rfl rfl rfl T (hg _ _ _ _ _ rfl) (hel _ _ _ _ _ _ (room_loopI hr)) ⟨List.replicate (xs.length + 1) none, ps, List.length_replicate .., by simp, hm, st6, ?_⟩ hrd⟩,
    fun b σ' H' s' J q => ⟨H', I4.call' (ch := fp) J.os J.base J.hok J.bare fun b hb => ⟨(hf b hb).2.2.2.1, (hf b hb).2.1, (hf b hb).2.2.2.2.1, (hf b hb).2.2.2.2.2⟩, q⟩⟩
  refine ⟨KY, rfl, allBare_setGen (AllBare.push I1.bare rfl) rfl, Un.kept k6, ⟨_, hns.push _, fun i y v _ h2 _ => ?_⟩, fun y c e => (by cases e), I4.hok.fresh (Nat.le_refl _), fun y c e => (by cases e), fun p hp => ?_, I4.hok.kept k6, ?_⟩
  · have h2' : (List.replicate (xs.length + 1) (none : Option V))[i]? = some (some v) := h2
    rw [List.getElem?_replicate] at h2'
    split at h2' <;> cases h2'
  · rcases List.mem_cons.mp (show p ∈ (h5.objs.size, go) :: ps from hp) with rfl | hp
    · exact ⟨hga, I4.hok.fresh (show h3.objs.size ≤ h5.objs.size by omega), (by show h5.objs.size ≠ h3.objs.size; omega), nstN _ (show h3.objs.size ≤ h5.objs.size by omega), god⟩
    · have hb : p.1 ∈ fp := hm ▸ List.mem_map.mpr ⟨p, hp, rfl⟩
      exact ⟨(ho p hp).1, none2 _ hb, Nat.ne_of_lt (lt3 _ hb), nst _ hb, (ho p hp).2⟩
  · show (List.replicate (xs.length + 1) (none : Option V)).length = ((".0" : Str) :: xs).length
    rw [List.length_replicate]
    rfl
end
/-- all(e for .. in ..): the def's table may have grown when the first is asked -/
def tAllI (P : Addr) (g : TG) (te : TE) (wi : TI) (L : Nat) : TE := fun σ H Q => wi σ H fun J H1 => GxR.TabG H1 P ∧ ∀ H2, GxR.Tabbed P H1 H2 → ∃ n, rdAllI g te J L n 0 H2 fun b H' => Q (.bl b) H'

section
variable {X : Cx}
theorem pe_allI {c P : Addr} {elt iter tg : Expr} {xs : List Str} {p pos gpos : Pos} {scope : Scope} {te : TE} {g : TG} {wi : TI} {k : Nat}
    (hr : Room (k + 1) X.A) (hgl : Gl X "all") (hm : X.mg "all" = none) (TB : GxR.TabB X.base X.mg c P) (hcode : X.env.code = .ref c) (S : ManyN scope xs) (hi : PI X tg iter wi)
    (hg : ∀ (s : Shared) (H : Hp) (cenv : Env) (B : Around) (fp : List Addr), cenv.scope = scope → PG (gyOf X xs s H cenv B fp) tg g)
    (hel : ∀ (s : Shared) (H : Hp) (C : Addr) (code : Value) (I : Addr) (fp : List Addr), Room k (X.A.in1.in1.over (.compLoop (.GeneratorExp elt [⟨tg, iter, [], 0⟩] scope gpos) 0 (.ref I) .none (genEnv scope [] C code builtinsNs X.env)) []) →
      PE (gyOf X xs s H (genEnv scope [] C code builtinsNs X.env) (X.A.in1.in1.over (.compLoop (.GeneratorExp elt [⟨tg, iter, [], 0⟩] scope gpos) 0 (.ref I) .none (genEnv scope [] C code builtinsNs X.env)) []) fp) elt te)
    (hs : ∀ v, genFold iter X.env v = pure v) (hb : bootBuiltins "all" = some (.builtin "all") := by decide +kernel)
    (he : starEach [.GeneratorExp elt [⟨tg, iter, [], 0⟩] scope gpos] X.env = (false, eval (.GeneratorExp elt [⟨tg, iter, [], 0⟩] scope gpos) X.env) :: starEach [] X.env := by rfl) :
    PE X (.Call (.Name "all" p) [.GeneratorExp elt [⟨tg, iter, [], 0⟩] scope gpos] [] pos) (tAllI P g te wi (xs.length + 1)) := by
  constructor
  intro pins s σ H Q I want
  have hroom : X.A.depth < recursionLimit := by
    have := hr.dp
    omega
  apply wpAny_Call_Name_kw (ld_blt I hgl hm hb ?_)
  apply PyProof.Rows.callWith_builtin1 ?_ he (by rfl)
  rw [he]
  show wpAny _ _ (spliced ((false, eval (.GeneratorExp elt [⟨tg, iter, [], 0⟩] scope gpos) X.env) :: backTo pos (starEach [] X.env))) _ _ s
  apply Calls.spliced_cons (gen_it (R := fun J n H2 => rdAllI g te J (xs.length + 1) n 0 H2 fun b H' => Q (.bl b) H') hr TB hcode S hi hg hel hs I want ?_)
  intro J n H2 a s5 k5 ready
  obtain ⟨go, gi, fp, tn, GO, ha, lim, _, fin⟩ := ready
  obtain ⟨Y, eP, eW, hgo, back⟩ := fin _ k5
  apply Calls.spliced_nil
  apply call_function_tree F.kind_all F.plain_all F.entry_all (F.args_all1 _)
  unfold Builtin.«all»
  refine wpAny_bind (m := oneArg "all" _) (wpAny_pure ?_)
  refine wpAny_bind (wpAny_pyIter_gen (GO.at ha) ?_)
  refine wpAny_pure ⟨plainId_quiet F.plain_all_loop _, ?_⟩
  have key := all_loop2 (Y := Y) (A := X.A) (fp := fp) (tn := tn) (L := xs.length + 1) (R := fun r s' => match r with | .ok (.ret v) => EP X pins σ Q v s' | .ok _ => False | .error e => X.xe e s') hr.hd hroom GO (fun b σ' H' s' J q => by
    obtain ⟨H'', J2, q2⟩ := back b σ' H' s' J q
    exact ⟨.bl b, H'', J2, rfl, q2⟩) n s5 ha lim hgo
  rw [eP, eW] at key
  exact key
end
section
variable {X : Cx}
theorem pg_two {x1 x2 : Str} {s : Shared} {H : Hp} {cenv : Env} {B : Around} {fp : List Addr} {scope : Scope} {p1 p2 pos : Pos} {n : Nat} (ec : cenv.scope = scope) (nd : List.Nodup [(".0" : Str), x1, x2]) (h1 : scope.names.lookup x1 = some .local) (h2 : scope.names.lookup x2 = some .local) :
    PG (gyOf X [x1, x2] s H cenv B fp) (.Tuple [.Name x1 p1, .Name x2 p2] n pos) (gTup X.K 2 (gCons (gName 1) (gCons (gName 2) gNil))) := by
  subst ec
  exact pg_tup (X := gyOf X [x1, x2] s H cenv B fp) rfl (pgs_cons (pg_name (X := gyOf X [x1, x2] s H cenv B fp) (i := 1) nd rfl (Or.inl h1)) (pgs_cons (pg_name (X := gyOf X [x1, x2] s H cenv B fp) (i := 2) nd rfl (Or.inl h2)) pgs_nil))
end
end Jf
set_option Elab.async false
set_option linter.all false
set_option maxRecDepth 100000
set_option maxHeartbeats 4000000
namespace PySem.W
open Lean Elab Tactic Meta PySem PySem.Calls PyProof.Rows Builtin Builtin.ObjectAttr Builtin.Getset_descriptor PyProof.V PySem.Spec
section
variable {prog : Program} {w : World} {A : Around} {E : Value → Shared → Prop} {s : Shared} {K : Frag} {x C : Addr} {ox : Obj} {od : Option Obj} {R : Result → Shared → Prop}
/-- an attribute of an error of the program's own class is asked of BaseException's own reader -/
theorem jf_asks {name : Str} {gt : Option Value} {ex : Bool} {Q : Value → Shared → Prop} (X : K.In s.heap) (I : InstAt s.heap x ox C od)
    (h1 : findIn K (.ref C) "__getattribute__" = some (some (.builtin "BaseException.__getattribute__"))) (h2 : findIn K (.ref C) "__getattr__" = some gt) (h3 : subIn K (.ref C) (.type "BaseException") = some true)
    (go : ∀ B : Around, wpAny (model prog w) B (Builtin.«object.__getattribute__» ⟨[.ref x, .str name s.toks], []⟩) (fun f s' => ∃ v, f = .done (.ret v) ∧ handedIn v = true ∧ Q v s') (fun _ _ => False) { s with toks := s.toks + 1 }) :
    wpAny (model prog w) A (getAttr (.ref x) name ex) Q E s := by
  have same : (onTheHeap (Value.ref C) && (.builtin "BaseException.__getattribute__" : Value) == .builtin "object.__getattribute__") = false := by
    rw [show ((.builtin "BaseException.__getattribute__" : Value) == .builtin "object.__getattribute__") = false from by decide +kernel]
    rfl
  have ofB : Looks (model prog w) s.heap (isInstance (.ref x) (.type "BaseException")) true := (I.type (M := model prog w)).andThen (looks_subIn X h3)
  have byB := PySem.F.excAttr_ValueError.ga
  unfold getAttr getAttrBy
  refine wpAny_bind (wpAny_mkText (wpAny_holding (wpAny_bind ((I.type (M := model prog w)).at (wpAny_bind ((looks_findIn X h1).at ?_))))))
  dsimp only
  rw [same, if_neg (by decide)]
  unfold getAttrByItsOwn hookBefore
  refine wpAny_bind ?_
  rw [if_pos (by rfl : onTheHeap (Value.ref C) = true)]
  refine (looks_findIn X h2).at (wpAny_bind (wpAny_attempt (wpAny_holding ?_)))
  unfold callGetattribute
  rw [if_neg (by cases ex <;> exact Bool.false_ne_true : ¬ (ex && onTheHeap (Value.builtin "BaseException.__getattribute__")) = true)]
  unfold boundAndCalled
  rw [byB.bind (.ref x)]
  refine wpAny_bind (wpAny_pure (wpAny_call (codeAny_call_builtin byB.plain PySem.F.entry_bexc_ga ?_)))
  refine check_slot (s := { s with toks := s.toks + 1 }) (i := "BaseException.__getattribute__") (owner := "BaseException") (n := "__getattribute__") (by decide +kernel) (by decide +kernel) ofB (PySem.F.args_bexc_ga (.ref x) (.str name s.toks)) ?_
  refine wpAny_mono (go _) (fun f s' hf => ?_) fun _ _ z => z.elim
  obtain ⟨v, rfl, hv, q⟩ := hf
  exact handed_on hv q
/-- its class -/
theorem jf_classX {gt : Option Value} {expr : Bool} {Q : Value → Shared → Prop} (X : K.In s.heap) (I : InstAt s.heap x ox C od) (h1 : findIn K (.ref C) "__getattribute__" = some (some (.builtin "BaseException.__getattribute__"))) (h2 : findIn K (.ref C) "__getattr__" = some gt)
    (h3 : subIn K (.ref C) (.type "BaseException") = some true) (h4 : findObj K C od "__class__" = some (.bind (.builtin "getset_descriptor.__get__") (.builtin "object.__class__"))) (h5 : mroIn K C (.type "object") = some true)
    (q : Q (.ref C) { s with toks := s.toks + 1 }) : wpAny (model prog w) A (getAttr (.ref x) "__class__" expr) Q E s := by
  refine jf_asks X I h1 h2 h3 fun B => ?_
  have found := looks_find (M := model prog w) X I h4
  unfold Builtin.«object.__getattribute__»
  refine wpAny_bind (wpAny_of_eq (a := ((Value.ref x : Value), [Value.str "__class__" s.toks])) (by first | rfl | (simp only [slotArgs]; rfl)) (wpAny_bind (wpAny_pure (wpAny_bind ((I.type (M := model prog w)).at (wpAny_bind (found.at ?_)))))))
  have J : K.In ({ s with toks := s.toks + 1 } : Shared).heap := X
  refine wpAny_bind (wpAny_holding (wpAny_call (class_get (s := { s with toks := s.toks + 1 }) (ox := ox) (od := od) J I h5 (wpAny_pure ⟨_, rfl, rfl, q⟩))))
theorem jf_dga (d tp : Value) (C : Addr) : descrGetArgs ⟨[d, .ref C, tp], []⟩ = pure (d, some (.ref C), given tp) := by rfl
/-- c.__name__, what its slot keeps -/
theorem jf_name_get {tp : Value} {o : Obj} {n : Str} {tk : Tok} (X : K.In s.heap) (ht : typeIn K (.ref C) = some (.type "type")) (hl : K.lookup C = some o) (hs : o.slots[2]? = some (some (.str n tk))) (h : R (.ok (.ret (.str n tk))) s) :
    codeAny (model prog w) A (.call (.builtin "getset_descriptor.__get__") ⟨[.builtin "type.__name__", .ref C, tp], []⟩) R s := by
  obtain ⟨hh, g, dr, t, os⟩ := s
  have L0 : Looks (model prog w) hh (typeOf (.ref C)) (.type "type") := looks_typeIn X ht
  have L1 : Looks (model prog w) hh (isSubtype (.type "type") (.type "type")) true := Looks.of_pure (by rw [isSubtype_type]; kernel_rfl)
  refine codeAny_call_builtin KF.slot_gs.plain KF.entry_gs (KF.slot_gs.check _ _ _ _ _ _ _ _ ktyn_type (KF.args_gs _ _ _) ?_)
  unfold Builtin.«getset_descriptor.__get__» descrGet
  rw [jf_dga]
  refine wpAny_bind (wpAny_pure ?_)
  unfold descrGetter descrCheckInstance descrNameAndClass isInstance
  simp only [ktyn_owner]
  repeat lk
  refine ⟨Code.quiet_builtin _ (by decide +kernel), codeAny_builtin ktyn_entry ?_⟩
  unfold Builtin.«type.__name__»
  dsimp only
  unfold Builtin.keptObject slotAt
  dsimp only
  refine wpAny_bind (wpAny_bind (wpAny_bind (wpAny_loadPart (X _ _ hl) ?_)))
  refine wpAny_pure (wpAny_pure ?_)
  rw [hs]
  exact wpAny_pure h
end
end PySem.W
namespace Jf
open PySem PySem.Spec PyProof.Rows L2 Evl
/-- what is asked of a class, so that its name is read -/
structure NmC (K : PySem.W.Frag) (C : Addr) (nm : Str) : Prop where
  ga : PySem.W.findIn K (.ref C) "__getattribute__" = some (some (.builtin "BaseException.__getattribute__"))
  gg : PySem.W.findIn K (.ref C) "__getattr__" = some none
  ex : PySem.W.subIn K (.ref C) (.type "BaseException") = some true
  cl : (PySem.W.clsIn K C).isSome = true
  kc : PySem.W.findIn K (.ref C) "__class__" = some (some (.builtin "object.__class__"))
  sp : PySem.W.specialIn K (.builtin "object.__class__") "__get__" = some (some (.builtin "getset_descriptor.__get__"))
  tk : PySem.W.takesIn K (.builtin "object.__class__") = some true
  mo : PySem.W.mroIn K C (.type "object") = some true
  rd : PySem.W.readsIn K C (.type "type") = true
  fd : PySem.W.findCls K (.ref C) (.type "type") "__name__" = some (.get (.builtin "getset_descriptor.__get__") (.builtin "type.__name__") (.ref C) (.type "type"))
  ty : PySem.W.typeIn K (.ref C) = some (.type "type")
  sl : ∃ o t, K.lookup C = some o ∧ o.slots[2]? = some (some (.str nm t))
/-- e.__class__.__name__ -/
def tNm (K : PySem.W.Frag) (te : TE) : TE := fun σ H Q => te σ H fun x H1 => ∃ (a C dx : Addr) (fs : List (Str × V)) (nm : Str), x = .ref a ∧ NmC K C nm ∧ H1 a = some (exo a C (some dx)) ∧ H1 dx = some (exd dx fs) ∧ Q (.str nm) H1
theorem pe_nm {X : Cx} {e : Expr} {te : TE} {p1 pos : Pos} (he : PE X e te) (hb1 : attributeBase e "__class__" X.env (eval e X.env) = eval e X.env := by rfl)
    (hb : attributeBase (.Attribute e "__class__" p1) "__name__" X.env (eval (.Attribute e "__class__" p1) X.env) = eval (.Attribute e "__class__" p1) X.env := by rfl) : PE X (.Attribute (.Attribute e "__class__" p1) "__name__" pos) (tNm X.K te) := by
  refine ⟨fun pins s σ H Q I h => ?_⟩
  refine attr_of hb (attr_of hb1 (thn (he.run pins s σ H _ I h) fun u s1 hh => ?_))
  obtain ⟨x, H1, I1, rx, a, C, dx, fs, nm, ex, T, ea, ed, q⟩ := hh
  subst ex
  obtain rfl : u = Value.ref a := rx
  obtain ⟨t1, ho⟩ := exo_at I1.hok ea
  obtain ⟨mA, hns, hr⟩ := exd_at I1.hok ed
  obtain ⟨od, hod, hl⟩ := lookIn_ns hns
  have J : PySem.W.InstAt s1.heap a { cls := .ref C, dict := some dx, data := .fields #[.ref t1, .none, .none, .none, .bool false, .none] } C (some od) := ⟨ho, rfl, rfl, hod⟩
  refine PySem.W.jf_classX I1.kIn J T.ga T.gg T.ex (PySem.W.findObj_dataE T.cl T.kc T.sp T.tk) T.mo ?_
  obtain ⟨o, t, e1, e2⟩ := T.sl
  have I2 := I1.tok (s1.toks + 1)
  have I3 := I1.tok (s1.toks + 1 + 1)
  refine PySem.W.cls_bind (s := { s1 with toks := s1.toks + 1 }) I2.kIn T.rd T.fd (wpAny_call (PySem.W.jf_name_get (s := { s1 with toks := s1.toks + 1 + 1 }) I3.kIn T.ty e1 e2 ?_))
  refine PySem.W.handed_on rfl ?_
  exact ⟨.str nm, H1, I3, ⟨t, rfl⟩, q⟩
end Jf
set_option Elab.async false
set_option linter.all false
set_option maxRecDepth 100000
set_option maxHeartbeats 4000000
namespace Jf
open PySem PySem.Spec PyProof.Rows L2 Evl
/-! ### error classes right under one class over ValueError, each with an `__init__` of its own that calls that one's -/
def clsOk (K : PySem.W.Frag) (C CM : Addr) (nm : Str) : Bool := match K.lookup C with
  | some ⟨.type "type", _, .cls cd, sl⟩ => (match sl.toList with
    | [_, _, _, _, some (.builtin n), _] => decide (n = "ValueError.__new__") && (decide (cd.name = nm) && (decide (cd.mro = [.ref C, .ref CM, .type "ValueError", .type "Exception", .type "BaseException", .type "object"]) && (decide (cd.hasDict = true) && decide (cd.hasDel = false))))
    | _ => false)
  | _ => false
/-- its name is read -/
def fdB (K : PySem.W.Frag) (C : Addr) : Bool := match PySem.W.findCls K (.ref C) (.type "type") "__name__" with
  | some (.get (.builtin g) (.builtin a) (.ref D) (.type t)) => decide (g = "getset_descriptor.__get__") && (decide (a = "type.__name__") && (decide (D = C) && decide (t = "type")))
  | _ => false
def slB (K : PySem.W.Frag) (C : Addr) (nm : Str) : Bool := match K.lookup C with
  | some o => (match o.slots[2]? with
    | some (some (Value.str n _)) => decide (n = nm)
    | _ => false)
  | none => false
def nmB (K : PySem.W.Frag) (C : Addr) (nm : Str) : Bool := PySem.W.readsIn K C (.type "type") && (fdB K C && (slB K C nm && decide (PySem.W.findIn K (.ref C) "kind" = some none)))
theorem fd_ok {K : PySem.W.Frag} {C : Addr} (h : fdB K C = true) : PySem.W.findCls K (.ref C) (.type "type") "__name__" = some (.get (.builtin "getset_descriptor.__get__") (.builtin "type.__name__") (.ref C) (.type "type")) := by
  unfold fdB at h
  split at h
  · rename_i g a D t e
    simp only [Bool.and_eq_true, decide_eq_true_eq] at h
    obtain ⟨rfl, rfl, rfl, rfl⟩ := h
    exact e
  · cases h
theorem sl_ok {K : PySem.W.Frag} {C : Addr} {nm : Str} (h : slB K C nm = true) : ∃ o t, K.lookup C = some o ∧ o.slots[2]? = some (some (.str nm t)) := by
  unfold slB at h
  split at h
  · rename_i o e
    split at h
    · rename_i n t e2
      simp only [decide_eq_true_eq] at h
      subst h
      exact ⟨o, t, e, e2⟩
    · cases h
  · cases h
/-- all that is asked of a class, as one truth -/
def errB (K : PySem.W.Frag) (C CM f : Addr) (nm : Str) : Bool :=
  nmB K C nm && (clsOk K C CM nm && (decide (PySem.W.findIn K (.ref C) "__setattr__" = some (some (.builtin "object.__setattr__"))) && (decide (PySem.W.subIn K (.ref C) (.type "BaseException") = some true) && (decide (PySem.W.typeIn K (.ref C) = some (.type "type")) &&
  (PySem.W.keepIn K (.ref C) && (decide (PySem.W.findIn K (.ref C) "__init__" = some (some (.ref f))) && (decide (PySem.W.typeIn K (.ref f) = some (.type "function")) && (decide (PySem.W.findIn K (.ref C) "value" = some none) &&
  (decide (PySem.W.findIn K (.ref C) "__getattribute__" = some (some (.builtin "BaseException.__getattribute__"))) && (decide (PySem.W.findIn K (.ref C) "__getattr__" = some none) && (PySem.W.hasDictIn K C &&
  (decide (PySem.W.findIn K (.ref C) "__class__" = some (some (.builtin "object.__class__"))) && (decide (PySem.W.specialIn K (.builtin "object.__class__") "__get__" = some (some (.builtin "getset_descriptor.__get__"))) && (decide (PySem.W.takesIn K (.builtin "object.__class__") = some true) &&
  (decide (PySem.W.mroIn K C (.type "object") = some true) && (decide (PySem.W.exmOne K (.ref C) (.ref CM) = some true) && !(C == CM)))))))))))))))))
structure ErrX (K : PySem.W.Frag) (C CM f : Addr) (nm : Str) : Prop where
  oex : OexC K C
  i : PySem.W.findIn K (.ref C) "__init__" = some (some (.ref f))
  t : PySem.W.typeIn K (.ref f) = some (.type "function")
  noV : PySem.W.findIn K (.ref C) "value" = some none
  ec : ErrC K C
  xf : XfC K C
  named : ∃ cd, PySem.W.clsIn K C = some cd ∧ cd.name = nm ∧ cd.mro = [.ref C, .ref CM, .type "ValueError", .type "Exception", .type "BaseException", .type "object"]
  exm : PySem.W.exmOne K (.ref C) (.ref CM) = some true
  ty : PySem.W.typeIn K (.ref C) = some (.type "type")
  neM : C ≠ CM
  nm : NmC K C nm
  noK : PySem.W.findIn K (.ref C) "kind" = some none
theorem cls_ok {K : PySem.W.Frag} {C CM : Addr} {nm : Str} (h : clsOk K C CM nm = true) : (∃ q N bs bm sn sub ab col dd k0 k1 k2 k3 k5, K.lookup C = some (excClassObj nm q C N bs bm true sn sub ab col dd k0 k1 k2 k3 k5 "ValueError.__new__") ∧ PySem.HandSPX.refsVE bm = true) ∧
    ∃ cd, PySem.W.clsIn K C = some cd ∧ cd.name = nm ∧ cd.mro = [.ref C, .ref CM, .type "ValueError", .type "Exception", .type "BaseException", .type "object"] := by
  unfold clsOk at h
  split at h
  · rename_i dd cd sl ho
    split at h
    · rename_i k0 k1 k2 k3 n k5 hs
      simp only [Bool.and_eq_true, decide_eq_true_eq] at h
      obtain ⟨rfl, h1, h2, h3, h4⟩ := h
      obtain ⟨nm', bs, mro, ns, qn, hd, sn, sub, ab, col, del⟩ := cd
      dsimp only at h1 h2 h3 h4
      subst h1 h2 h3 h4
      have hsl : sl = #[k0, k1, k2, k3, some (.builtin "ValueError.__new__"), k5] := by
        obtain ⟨l⟩ := sl
        simp only at hs
        rw [hs]
      subst hsl
      exact ⟨⟨qn, ns, bs, [.ref CM, .type "ValueError", .type "Exception", .type "BaseException", .type "object"], sn, sub, ab, col, dd, k0, k1, k2, k3, k5, ho, rfl⟩, _, by unfold PySem.W.clsIn; rw [ho], rfl, rfl⟩
    · cases h
  · cases h
theorem err_ok {K : PySem.W.Frag} {C CM f : Addr} {nm : Str} (h : errB K C CM f nm = true) : ErrX K C CM f nm := by
  unfold errB at h
  simp only [Bool.and_eq_true, decide_eq_true_eq, Bool.not_eq_true', beq_eq_false_iff_ne] at h
  obtain ⟨h0, h1, sa, ex, ty, kp, hi, ht, nv, ga, gg, hd, kc, sp, tk, mo, em, nM⟩ := h
  obtain ⟨⟨q, N, bs, bm, sn, sub, ab, col, dd, k0, k1, k2, k3, k5, hl, hr⟩, cd, hc, hn, hm⟩ := cls_ok h1
  unfold nmB at h0
  simp only [Bool.and_eq_true, decide_eq_true_eq] at h0
  refine ⟨⟨⟨nm, q, N, bs, bm, sn, sub, ab, col, dd, k0, k1, k2, k3, k5, hl, hr⟩, sa, ex, ty, kp⟩, hi, ht, nv, ⟨by rw [hc]; rfl, ga, gg, ex, hd, kc, sp, tk, mo⟩, ⟨ga, gg, ex, hd⟩, ⟨cd, hc, hn, hm⟩, em, ty, nM, ?_, ?_⟩
  · exact ⟨ga, gg, ex, by rw [hc]; rfl, kc, sp, tk, mo, h0.1, fd_ok h0.2.1, ty, sl_ok h0.2.2.1⟩
  · exact h0.2.2.2
section
variable {K : PySem.W.Frag} {C D CM f g : Addr} {nm nk : Str}
theorem kit_one (C : Addr) : PySem.W.kitOne K (.ref C) (.ref C) = some true := by
  unfold PySem.W.kitOne
  rw [if_pos (by simp)]
theorem ErrX.ne (a : ErrX K C CM f nm) (b : ErrX K D CM g nk) (h : nm ≠ nk) : C ≠ D := by
  rintro rfl
  obtain ⟨cd, h1, h2, _⟩ := a.named
  obtain ⟨ce, h3, h4, _⟩ := b.named
  rw [h1] at h3
  cases h3
  exact h (h2.symm.trans h4)
/-- isinstance by another of them -/
theorem ErrX.other (a : ErrX K C CM f nm) (b : ErrX K D CM g nk) (h : nm ≠ nk) : PySem.W.kitOne K (.ref C) (.ref D) = some false := by
  have n := a.ne b h
  obtain ⟨cd, h1, h2, h3⟩ := a.named
  obtain ⟨ce, h4, _, _⟩ := b.named
  unfold PySem.W.kitOne PySem.W.kitCls
  rw [if_neg (by simpa using n)]
  dsimp only
  rw [if_pos (by rw [h4, b.ty]; rfl)]
  show PySem.W.mroIn K C (.ref D) = some false
  unfold PySem.W.mroIn
  rw [h1, Option.bind_some, h3]
  simp [n.symm, b.neM]
theorem ErrX.off (a : ErrX K C CM f nm) (b : ErrX K D CM g nk) (n : C ≠ D) : PySem.W.kitOne K (.ref C) (.ref D) = some false := by
  obtain ⟨cd, h1, h2, h3⟩ := a.named
  obtain ⟨ce, h4, _, _⟩ := b.named
  unfold PySem.W.kitOne PySem.W.kitCls
  rw [if_neg (by simpa using n)]
  dsimp only
  rw [if_pos (by rw [h4, b.ty]; rfl)]
  show PySem.W.mroIn K C (.ref D) = some false
  unfold PySem.W.mroIn
  rw [h1, Option.bind_some, h3]
  simp [n.symm, b.neM]
theorem ErrX.self1 (a : ErrX K C CM f nm) : PySem.W.exmOne K (.ref C) (.ref C) = some true := by
  obtain ⟨cd, h1, h2, h3⟩ := a.named
  refine PySem.W.exm_ref a.ec.ex a.ec.hd a.ty ?_
  show PySem.W.mroIn K C (.ref C) = some true
  unfold PySem.W.mroIn
  rw [h1, Option.bind_some, h3]
  simp
theorem ErrX.base (a : ErrX K C CM f nm) : PySem.W.kitOne K (.ref C) (.ref CM) = some true := by
  have e := a.exm
  unfold PySem.W.exmOne at e
  split at e
  · unfold PySem.W.kitOne
    split
    · rfl
    · exact e
  · cases e
theorem ErrX.ve (a : ErrX K C CM f nm) : PySem.W.kitOne K (.ref C) (.type "ValueError") = some true := by
  obtain ⟨cd, h1, h2, h3⟩ := a.named
  unfold PySem.W.kitOne PySem.W.kitCls
  rw [if_neg (by simp)]
  dsimp only
  rw [if_pos (by decide +kernel)]
  show PySem.W.mroIn K C (.type "ValueError") = some true
  unfold PySem.W.mroIn
  rw [h1, Option.bind_some, h3]
  simp
theorem ErrX.self (a : ErrX K C CM f nm) (b : ErrX K D CM g nk) (h : nm = nk) (e : C = D) : PySem.W.kitOne K (.ref C) (.ref D) = some true := e ▸ kit_one C
end
/-- what such an error keeps -/
def kd (k : Str) (v : V) : List (Str × V) := [(("kind" : Str), .str k), (("value" : Str), v)]
/-- the object made of a class, its value kept -/
def ErrAt (K : PySem.W.Frag) (C : Addr) (v : V) (x : V) (H : Hp) : Prop := ∃ a dx k, x = .ref a ∧ H a = some (exo a C (some dx)) ∧ H dx = some (exd dx (kd k v))

/-! ### making one, as a value -/
def spInit (C : Addr) : Sp := fun vs H Q _ => ∃ (a : Addr) (v : V), vs = [.ref a, v] ∧ H a = some (exo a C none) ∧
  ∀ dx k H', H dx = none → dx ≠ a → H' a = some (exo a C (some dx)) → H' dx = some (exd dx (kd k v)) → (∀ b o, b ≠ a → H b = some o → H' b = some o) → Q .non H'
/-- .. of any of those classes -/
def spInitM (K : PySem.W.Frag) : Sp := fun vs H Q _ => ∃ (C a : Addr) (v : V) (nm : Str), vs = [.ref a, v] ∧ OexC K C ∧ PySem.W.findIn K (.ref C) "value" = some none ∧ PySem.W.findIn K (.ref C) "kind" = some none ∧ NmC K C nm ∧ H a = some (exo a C none) ∧
  ∀ dx k H', H dx = none → dx ≠ a → H' a = some (exo a C (some dx)) → H' dx = some (exd dx (kd k v)) → (∀ b o, b ≠ a → H b = some o → H' b = some o) → Q .non H'
def tMkV (C : Addr) (sp : Sp) (ta : TA) : TE := fun σ H Q => ta σ H fun vs H1 => vs.length ≤ 1000 ∧ ∀ a, H1 a = none → sp (.ref a :: vs) (upd H1 a (exo a C none)) (fun v H2 => v = .non ∧ Q (.ref a) H2) (fun _ _ _ => False)
section
variable {X : Cx} {e : Expr} {es : List Expr} {ta : TA} {x m : Str} {p p1 p2 pos : Pos} {k : Nat} {fd : FuncData} {ps : List Str} {sp : Sp}
/-- C(e, ..) -/
theorem pe_mkv {CX : CXT} {C fI : Addr} (T : OexC X.K C) (iC : PySem.W.findIn X.K (.ref C) "__init__" = some (some (.ref fI))) (tI : PySem.W.typeIn X.K (.ref fI) = some (.type "function"))
    (F1 : FnOk X.prog X.w X.K X.mg X.base CX k fI fd ps sp) (hr : Room (k + 1) X.A) (hb : Binds X.K fd ps []) (hx : Passes CX X (fun _ _ _ => False)) (hg : Gl X x) (hm : X.mg x = some (.ref C)) (ha : PA X (e :: es) ta)
    (hdb : (x == ("__debug__" : Str)) = false := by decide) (he : starEach (e :: es) X.env = (false, eval e X.env) :: starEach es X.env := by rfl) (hpl : (backTo pos (starEach es X.env)).any (·.1) = false := by rfl) :
    PE X (.Call (.Name x p) (e :: es) [] pos) (tMkV C sp ta) := by
  refine ⟨fun pins s σ H Q I h => ?_⟩
  obtain ⟨nm, q, N, bs, bm, sn, sub, ab, col, dd, k0, k1, k2, k3, k5, hC, hbm⟩ := T.cls
  refine wpAny_Call_Name_kw (ld_glob I hg hm ?_ hdb)
  refine PySem.W.callWith_K (h₀ := X.base) I.ok.mod.kin T.kC (thn (ha.run pos pins s σ H _ I h) fun us s1 ⟨vs, H1, I1, r1, hz, q1⟩ => ⟨I1.kIn, ?_⟩) he hpl
  show wpAny _ _ (call (.ref C) us) _ _ _
  obtain ⟨hp, g, dr, tk, os⟩ := s1
  have hsz : hp.objs.size ≤ hp.objs.size + 1 := Nat.le_succ _
  have hn : H1 (hp.objs.size + 1) = none := I1.hok.fresh hsz
  have hq := q1 (hp.objs.size + 1) hn
  have kk : ∀ b o, hp.get? b = some o → ((hp.push (PySem.W.kdv_tup us)).push (PySem.HandSPX.excO C hp.objs.size)).get? b = some o := fun b o e => Heap.get?_push_of_some _ (Heap.get?_push_of_some _ e)
  have hget : ((hp.push (PySem.W.kdv_tup us)).push (PySem.HandSPX.excO C hp.objs.size)).get? (hp.objs.size + 1) = some (PySem.HandSPX.excO C hp.objs.size) := by heap_get
  have I2 : Inv X pins σ (upd H1 (hp.objs.size + 1) (exo (hp.objs.size + 1) C none)) ⟨(hp.push (PySem.W.kdv_tup us)).push (PySem.HandSPX.excO C hp.objs.size), g, dr, tk, os⟩ :=
    I1.laid (t' := tk) (a := hp.objs.size + 1) (o := exo (hp.objs.size + 1) C none) (h' := (hp.push (PySem.W.kdv_tup us)).push (PySem.HandSPX.excO C hp.objs.size)) kk hsz (exo_ok hget)
  have r2 : Vals (V.ref (hp.objs.size + 1) :: vs) (Value.ref (hp.objs.size + 1) :: us) := .cons rfl r1
  have hl : (Value.ref (hp.objs.size + 1) :: us ++ []).length = ps.length := by
    have e := r2.length
    rw [F1.len _ _ _ _ hq] at e
    rw [List.append_nil]
    exact e.symm
  have hus : us.length ≤ sizeLine := by
    rw [← Paired.length r1, sizeLine_eq]
    omega
  have hb2 := hb _ (Value.ref (hp.objs.size + 1) :: us) I2.kIn hl
  rw [List.append_nil] at hb2
  refine wpAny_call (PySem.HandSPX.call_own F.excBase_ValueError (fun Y => PySem.HandSPX.refsVE_contains Y bm hbm) (I1.kIn _ _ hC) (PySem.W.looks_findIn I1.kIn iC) (fun self => PySem.W.bind_fn I1.kIn self tI) hus
    (codeAny_mono (F1.run _ X.stack _ _ ⟨Value.ref (hp.objs.size + 1) :: us, []⟩ (Value.ref (hp.objs.size + 1) :: us) _ _ (fun _ _ _ => False) (hr.make C us []) (I2.env0.make C us []) hb2 r2 hq) fun r s' hq' => ?_))
  cases r with
  | error er => exact hx pins σ _ _ er s' I2 hq'
  | ok fl =>
    cases fl with
    | ret u =>
      obtain ⟨v, H2, os2, bare2, un2, hok2, rv, ev, q2⟩ := hq'
      subst ev
      obtain ⟨h2, g2, d2, t2, os'⟩ := s'
      exact ⟨rv, .ref (hp.objs.size + 1), H2, I2.call' (ch := []) os2 un2 hok2 bare2 (fun b z => absurd z (by simp)), rfl, q2⟩
    | next => exact False.elim hq'
    | brk => exact False.elim hq'
    | cont => exact False.elim hq'
/-- C.m(e, ..), m a def of the class C itself -/
theorem pe_clsdef {CX : CXT} {C f : Addr} {mc : Value} {E : XK} {pl : Sem Bool} (hg : Gl X x) (hm : X.mg x = some (.ref C)) (rd : PySem.W.readsIn X.K C mc = true) (ga : PySem.W.specialIn X.K (.ref C) "__getattribute__" = some (some (.builtin "type.__getattribute__")))
    (fi : PySem.W.findCls X.K (.ref C) mc m = some (.val (.ref f))) (hk : PySem.W.keepIn X.K (.ref f) = true) (F1 : FnOk X.prog X.w X.K X.mg X.base CX k f fd ps sp) (hr : Room k X.A) (hb : Binds X.K fd ps []) (hx : Passes CX X E) (ha : PA X (e :: es) ta)
    (hdb : (x == ("__debug__" : Str)) = false := by decide)
    (hc : eval (.Call (.Attribute (.Name x p1) m p2) (e :: es) [] pos) X.env = (do
      let ov ← eval (.Name x p1) X.env
      standAt p2.atName
      let (f, first) ← holding [ov] (getMethod ov m pl)
      callWith pos f first (backTo pos (starEach (e :: es) X.env)) (backToKw pos (keywordEach [] X.env))) := by rfl)
    (he : starEach (e :: es) X.env = (false, eval e X.env) :: starEach es X.env := by rfl) (hpl : (backTo pos (starEach es X.env)).any (·.1) = false := by rfl) :
    PE X (.Call (.Attribute (.Name x p1) m p2) (e :: es) [] pos) (tCall sp [] E ta) := by
  refine ⟨fun pins s σ H Q I h => ?_⟩
  refine PySem.W.methodCall_KW (ld_glob I hg hm ?_ hdb) hc
  refine PySem.W.method_cls I.kIn ga (PySem.W.cls_value I.kIn rd fi rfl ?_)
  show wpAny _ _ (callWith pos (Value.ref f) [] (backTo pos (starEach (e :: es) X.env)) []) _ _ _
  refine PySem.W.callWith_K (h₀ := X.base) I.ok.mod.kin hk (thn (ha.run pos pins _ σ H _ (I.tok _) h) fun us s1 ⟨vs, H1, I1, r, q⟩ => ⟨I1.kIn, ?_⟩) he hpl
  exact run_fn F1 hr hb .nil hx I1 r q
end
/-! ### what is asked of such an object -/
/-- isinstance(e, c) -/
def rIsX (K : PySem.W.Frag) : List V → Hp → VK → Prop := fun xs H Q => ∃ (a C dd : Addr) (fs : List (Str × V)) (c : V) (cv : Value) (b : Bool), xs = [.ref a, c] ∧ (∀ u, RelV c u → u = cv) ∧ ErrC K C ∧ H a = some (exo a C (some dd)) ∧ H dd = some (exd dd fs) ∧ PySem.W.kitOne K (.ref C) cv = some b ∧ Q (.bl b) H
theorem call_isX {X : Cx} : CallR X (.builtin "isinstance") (rIsX X.K) := by
  intro pins s σ H xs us Q I r h
  obtain ⟨a, C, dd, fs, c, cv, b, rfl, hcv, T, ea, ed, hk, q⟩ := h
  cases r with
  | cons rx rr =>
    cases rr with
    | cons rt rr =>
      cases rr
      cases rx
      have ec := hcv _ rt
      subst ec
      obtain ⟨t1, ho⟩ := exo_at I.hok ea
      obtain ⟨mA, hns, rel⟩ := exd_at I.hok ed
      obtain ⟨od, hod, _⟩ := lookIn_ns hns
      have J : PySem.W.InstAt s.heap a { cls := .ref C, dict := some dd, data := .fields #[.ref t1, .none, .none, .none, .bool false, .none] } C (some od) := ⟨ho, rfl, rfl, hod⟩
      refine PySem.W.kia_one (PySem.W.kitx_exc T.cl T.ga T.gg T.ex T.kc T.sp T.tk T.mo) I.kIn J hk (fun z => nomatch z) ?_
      intro tk
      exact ⟨.bl b, H, I.kept (t' := tk) fun _ _ z => z, rfl, q⟩
/-- e.f -/
def tXo (K : PySem.W.Frag) (f : Str) (te : TE) : TE := fun σ H Q => te σ H fun x H1 => ∃ (a C dd : Addr) (fs : List (Str × V)) (v : V), x = .ref a ∧ XfC K C ∧ PySem.W.findIn K (.ref C) f = some none ∧ H1 a = some (exo a C (some dd)) ∧ H1 dd = some (exd dd fs) ∧ fs.lookup f = some v ∧ Q v H1
theorem pe_xo {X : Cx} {e : Expr} {te : TE} {pos : Pos} {n : Str} (he : PE X e te) (hb : attributeBase e n X.env (eval e X.env) = eval e X.env := by rfl) : PE X (.Attribute e n pos) (tXo X.K n te) := by
  refine ⟨fun pins s σ H Q I h => ?_⟩
  refine attr_of hb (thn (he.run pins s σ H _ I h) fun u s1 hh => ?_)
  obtain ⟨x, H1, I1, rx, a, C, dd, fs, v, ex, T, hno, ea, ed, l, q⟩ := hh
  subst ex
  obtain rfl : u = Value.ref a := rx
  obtain ⟨t1, ho⟩ := exo_at I1.hok ea
  obtain ⟨mA, hns, hr⟩ := exd_at I1.hok ed
  obtain ⟨od, hod, hl⟩ := lookIn_ns hns
  obtain ⟨u, hu, ru⟩ := RelO.some_of (v := v) (o := mA n) (by rw [← l]; exact hr n)
  have J : PySem.W.InstAt s1.heap a { cls := .ref C, dict := some dd, data := .fields #[.ref t1, .none, .none, .none, .bool false, .none] } C (some od) := ⟨ho, rfl, rfl, hod⟩
  exact HandSPX.exc_get I1.kIn J T.ga T.gg T.exC (PySem.W.findObj_own T.hdC hno rfl (by rw [hl, hu])) (handed_of ru) ⟨v, H1, I1.tok _, ru, q⟩
/-! ### the class of all of them -/
def baseB (K : PySem.W.Frag) (C f : Addr) : Bool := PySem.W.readsIn K C (.type "type") && (decide (PySem.W.specialIn K (.ref C) "__getattribute__" = some (some (.builtin "type.__getattribute__"))) && PySem.W.keepIn K (.ref f))
/-- how the class of all of them stands -/
structure BaseK (K : PySem.W.Frag) (mg : Str → Option Value) (nm q : Str) (st : Stmt) where
  C : Addr
  f : Addr
  fd : FuncData
  g : mg nm = some (.ref C)
  F : Fun K "__init__" q st f fd
  b : Binds K fd ["self", "value"] []
  rd : PySem.W.readsIn K C (.type "type") = true
  ga : PySem.W.specialIn K (.ref C) "__getattribute__" = some (some (.builtin "type.__getattribute__"))
  fi : PySem.W.findCls K (.ref C) (.type "type") "__init__" = some (.val (.ref f))
  kp : PySem.W.keepIn K (.ref f) = true
/-- how one of them stands -/
structure ErrK (K : PySem.W.Frag) (mg : Str → Option Value) (nm q : Str) (CM : Addr) (st : Stmt) where
  C : Addr
  f : Addr
  fd : FuncData
  g : mg nm = some (.ref C)
  F : Fun K "__init__" q st f fd
  b : Binds K fd ["self", "value"] []
  x : ErrX K C CM f nm
theorem base_ok {K : PySem.W.Frag} {C f : Addr} (h : baseB K C f = true) : PySem.W.readsIn K C (.type "type") = true ∧ PySem.W.specialIn K (.ref C) "__getattribute__" = some (some (.builtin "type.__getattribute__")) ∧ PySem.W.keepIn K (.ref f) = true := by
  unfold baseB at h
  simp only [Bool.and_eq_true, decide_eq_true_eq] at h
  exact h
/-! ### list.count of truths -/
def eqb (k : Bool) (v : Value) : Bool := match v with
  | .bool n => n == k
  | _ => false
def rCntB (K : PySem.W.Frag) : V → List V → Hp → VK → Prop := fun x xs H Q => ∃ (p : Addr) (ns : List Bool) (k : Bool), x = .ref p ∧ xs = [.bl k] ∧ SqL K H p (ns.map V.bl) ∧ Q (.int (ns.count k : Nat)) H
theorem vals_bl : ∀ {ns : List Bool} {us : List Value}, Vals (ns.map V.bl) us → us = ns.map Value.bool
  | [], us, r => by cases r; rfl
  | n :: ns, us, r => by
    cases r with
    | cons h r2 =>
      have e := vals_bl r2
      rw [e]
      cases (show _ = Value.bool n from h)
      rfl
theorem eqb_count (k : Bool) : ∀ ns : List Bool, (ns.map Value.bool).countP (eqb k) = ns.count k
  | [] => rfl
  | n :: ns => by
    rw [List.map_cons, List.countP_cons, List.count_cons, eqb_count k ns]
    rfl
theorem mt_bcount {X : Cx} : MtR X "list.count" (rCntB X.K) := by
  intro pins s σ H x xs v us Q I rx rxs h
  obtain ⟨p, ns, k, rfl, rfl, hs, q⟩ := h
  cases rx
  obtain ⟨u, rfl, ru⟩ := rxs.one
  obtain rfl : u = Value.bool k := ru
  obtain ⟨its, rv, ⟨⟨cls, dd, data, sl⟩, n, ho, hc, hdn, hd⟩, hlen⟩ := I.list hs
  simp only at hc hd
  subst hc hd
  have hi := vals_bl rv
  subst hi
  refine call_meets PySem.F.slot_list_count ⟨_, ho, rfl⟩ PySem.F.entry_list_count (PySem.F.args_list_count_2 _ _)
    (SeqAt.list_countAt p (ns.map Value.bool).toArray n dd sl (.bool k) (eqb k)) ⟨ho, fun y hy => ?_, ?_⟩
  · have hy' : y ∈ ns.map Value.bool := by simpa using hy
    obtain ⟨b, _, rfl⟩ := List.mem_map.mp hy'
    exact SeqAt.EqAt.bool_bool b k
  have ec : (ns.map Value.bool).toArray.toList.countP (eqb k) = ns.count k := eqb_count k ns
  refine ⟨.int (ns.count k : Nat), H, I.tok _, ⟨s.toks, ?_⟩, q⟩
  show Value.int (((ns.map Value.bool).toArray.toList.countP (eqb k) : Nat) : Int) s.toks = Value.int ((ns.count k : Nat) : Int) s.toks
  rw [ec]
end Jf
set_option Elab.async false
set_option linter.all false
set_option maxRecDepth 100000
set_option maxHeartbeats 4000000
namespace Jf
open PySem PySem.Spec PyProof.Rows L2 Evl
/-- list(xs): a new list, not at sys.modules -/
def rListN (K : PySem.W.Frag) : List V → Hp → VK → Prop := fun xs H Q => ∃ (p : Addr) (ys : List V), xs = [.ref p] ∧ (SqL K H p ys ∨ SqT K H p ys) ∧ ∀ l, H l = none → l ≠ sysModules → Q (.ref l) (upd H l (.lst ys))
theorem call_listN {X : Cx} : CallR X (.type "list") (rListN X.K) := by
  rintro pins s σ H xs us Q I r ⟨p, ys, rfl, from_, k⟩
  obtain ⟨u, rfl, ru⟩ := vals1 r
  cases ru
  have done : ∀ its : List Value, Vals ys its → ys.length ≤ sizeLine → ∀ (h' : Heap) (n : Nat), (∀ b o, s.heap.get? b = some o → h'.get? b = some o) → h'.get? s.heap.objs.size = some { cls := .type "list", dict := none, data := .seq its.toArray n, slots := #[] } →
      EP X pins σ Q (.ref s.heap.objs.size) { s with heap := h' } := by
    intro its vals len h' n kp e
    have hf : H s.heap.objs.size = none := I.hok.fresh (Nat.le_refl _)
    refine ⟨.ref _, upd H _ (.lst ys), I.laid (t' := s.toks) kp (Nat.le_refl _) ?_, rfl, k _ hf (Nat.ne_of_gt I.big)⟩
    exact ⟨len, its, n, vals, e⟩
  rcases from_ with h | h
  · obtain ⟨its, vals, pl, len⟩ := I.list h
    have e := vals.length
    obtain ⟨o, e1, e2, n, e3⟩ := pl.isList
    exact call_list_seq p (.inl rfl) e1 e2 e3 (done its vals len) (by simp only [List.size_toArray]; omega)
  · obtain ⟨its, vals, pl, len⟩ := I.tuple h
    have e := vals.length
    obtain ⟨o, e1, e2, n, e3⟩ := pl
    exact call_list_seq p (.inr rfl) e1 e2 e3 (done its vals len) (by simp only [List.size_toArray]; omega)
end Jf
set_option Elab.async false
set_option linter.all false
set_option maxRecDepth 100000
set_option maxHeartbeats 4000000
namespace Jf
open PySem PySem.Spec PyProof.Rows L2
/-! ### several clauses, each with a name -/
/-- what the clauses wish of an exception of the body, one after the other -/
def wAsM (K : PySem.W.Frag) (Wout : WX) (D : Ends) : List (Value × Nat × (Addr → Value → Option Addr → TS)) → WX
  | [] => Wout
  | (c, i, ts) :: r => fun cls d σ H => ∃ b, PySem.W.exmOne K cls c = some b ∧
      (b = true → ∀ a, H a = none → ts a cls d { nx := fun σ' H' => D.nx (σ'.set i none) H', rt := D.rt, bk := fun σ' H' => D.bk (σ'.set i none) H', ct := fun σ' H' => D.ct (σ'.set i none) H' } (σ.set i (some (.ref a))) H) ∧
      (b = false → wAsM K Wout D r cls d σ H)
inductive HdsAs (X : Cx) : List ExceptHandler → List (Value × Nat × (Addr → Value → Option Addr → TS)) → Prop
  | nil : HdsAs X [] []
  | cons {x n : Str} {c : Value} {i : Nat} {ts : Addr → Value → Option Addr → TS} {b₀ : Stmt} {suite : List Stmt} {np pos' : Pos} {hds : List ExceptHandler} {l : List (Value × Nat × (Addr → Value → Option Addr → TS))}
      (hi : X.N[i]? = some n) (hln : X.env.kindOf n = some .local) (hc : Names X x c)
      (hsu : ∀ (a : Addr) (oe : Obj) (cls : Value) (d : Option Addr) (pn : List (Addr × Obj)), Zc cls d oe → (∃ vs, oe.data = .fields vs) → PSs (X.suite a ((a, oe) :: pn)) (b₀ :: suite) (ts a cls d)) (r : HdsAs X hds l) :
      HdsAs X (.ExceptHandler (some (.Name x np)) (some n) (b₀ :: suite) pos' :: hds) ((c, i, ts) :: l)
section
variable {X : Cx} {body : List Stmt} {h₀ : ExceptHandler} {hds : List ExceptHandler} {l : List (Value × Nat × (Addr → Value → Option Addr → TS))} {pos : Pos} {tb : WX → TS} {Wout : WX}
/-- an error of the body has come to the clauses: where it stands, and the state sI without it -/
structure Came (X : Cx) (pins : List (Addr × Obj)) (σ : L2.St) (H : Hp) (a : Addr) (cls : Value) (d : Option Addr) (B : Heap) (sI s : Shared) (h : Heap) : Prop where
  inv : Inv X pins σ H sI
  nb : ∀ b o, sI.heap.get? b = some o → b ∉ frs X.stack → B.get? b = some o
  free : H a = none
  os : s.os = sI.os
  ag : AllBare s.gens
  fl : HandSPX.FlyingZ B (X.env :: X.outer) a (Zc cls d) h
  up : sI.heap.UpToSlots h
section
variable {pins : List (Addr × Obj)} {σ : L2.St} {H : Hp} {a : Addr} {cls : Value} {d : Option Addr} {B h : Heap} {sI s : Shared} {D : Ends}
theorem Came.again {h' : Heap} (c : Came X pins σ H a cls d B sI s h) (f : HandSPX.FlyingZ B (X.env :: X.outer) a (Zc cls d) h') (u : h.UpToSlots h') : Came X pins σ H a cls d B sI s h' := ⟨c.inv, c.nb, c.free, c.os, c.ag, f, c.up.trans u⟩
theorem Came.here (c : Came X pins σ H a cls d B sI s h) : Inv X pins σ H { s with heap := h } := c.inv.landed c.nb c.fl.1 c.up c.os c.ag
theorem Came.off (hf : X.env.frame = some X.env.locals) (c : Came X pins σ H a cls d B sI s h) : a ≠ X.env.locals ∧ a ∉ X.fs := by
  obtain ⟨o, vs, e1, _, e2⟩ := c.fl.there
  have out : a ∉ frs (X.env :: X.outer) := fun hm => by
    obtain ⟨_, o', e3, n⟩ := c.fl.2.2.1.mem hm
    rw [e1] at e3
    cases e3
    exact n _ e2
  constructor
  · rintro rfl
    exact out (List.mem_filterMap.mpr ⟨X.env, List.mem_cons_self, hf⟩)
  · intro hm
    obtain ⟨e, he, q⟩ := List.mem_filterMap.mp hm
    exact out (List.mem_filterMap.mpr ⟨e, List.mem_cons_of_mem _ he, q⟩)
theorem Came.in (hf : X.env.frame = some X.env.locals) (c : Came X pins σ H a cls d B sI s h) : ∃ o vs, h.get? a = some o ∧ Zc cls d o ∧ o.data = .fields vs ∧ Inv (X.suite a ((a, o) :: (X.pn ++ pins))) [] σ H { s with heap := h } := by
  obtain ⟨o, vs, e1, e2, e3⟩ := c.fl.there
  exact ⟨o, vs, e1, e2, e3, c.here.suite e1 e3 c.free (c.off hf).1 (c.off hf).2⟩
/-- no clause takes it -/
theorem Came.on (hs : X.stack = X.env :: X.outer) (hf : X.env.frame = some X.env.locals) (tk : Takes X Wout) (c : Came X pins σ H a cls d B sI s h) (w : Wout cls d σ H) : wpAny (model X.prog X.w) X.A (handleBy (.ref a) X.env []) (SP X pins D) X.xe { s with heap := h } := by
  obtain ⟨_, _, _, o, vs, T, _, _, e1, _, e3, e4, _⟩ := id c.fl
  have last : wpAny (model X.prog X.w) X.A (setFlight (.ref a) X.env.frame) (fun _ s₁ => wpAny (model X.prog X.w) X.A (throw (.ref a) : Sem Flow) (SP X pins D) X.xe s₁) X.xe { s with heap := h } := by
    rw [hf]
    exact HandSPX.setFlight_upZ c.fl fun h' held u => wpAny_throw (tk _ _ ⟨a, B, sI, pins, σ, H, cls, d, rfl, c.inv, c.nb, c.up.trans u, .inr (.inr (hs ▸ held)), c.free, c.os, c.ag, w⟩)
  refine wpAny_handleBy_nil ?_
  unfold PySem.passOn
  refine wpAny_bind (wpAny_field e1 e3 e4 ?_)
  rw [if_neg (by simp : ¬ ((Value.ref T == Value.none) = true))]
  first
    | exact wpAny_bind last
    | exact wpAny_bind (wpAny_pure (wpAny_bind last))
/-- one takes it: its suite -/
theorem Came.go {i : Nat} {n : Str} {b₀ : Stmt} {suite : List Stmt} {pos' : Pos} {ts : Addr → Value → Option Addr → TS} (ok : Cx.Ok X) (hN : X.N.Nodup) (hf : X.env.frame = some X.env.locals) (hi : X.N[i]? = some n) (hln : X.env.kindOf n = some .local)
    (hsu : ∀ (a : Addr) (oe : Obj) (cls : Value) (d : Option Addr) (pn : List (Addr × Obj)), Zc cls d oe → (∃ vs, oe.data = .fields vs) → PSs (X.suite a ((a, oe) :: pn)) (b₀ :: suite) (ts a cls d)) (c : Came X pins σ H a cls d B sI s h)
    (w : ts a cls d { nx := fun σ' H' => D.nx (σ'.set i none) H', rt := D.rt, bk := fun σ' H' => D.bk (σ'.set i none) H', ct := fun σ' H' => D.ct (σ'.set i none) H' } (σ.set i (some (.ref a))) H) (o : Obj) (vs : Array Value)
    (e2 : Zc cls d o) (e3 : o.data = .fields vs) (S : Inv (X.suite a ((a, o) :: (X.pn ++ pins))) [] σ H { s with heap := h })
    {R : Flow → Shared → Prop} {Ee Eo : Value → Shared → Prop} (hR : ∀ f s', SP X pins D f s' → R f s') :
    wpAny (model X.prog X.w) (X.A.mark (some (.ref a))) (storeName X.env n (.ref a)) (fun _ s₁ => wpAny (model X.prog X.w) (X.A.mark (some (.ref a))) (execs (b₀ :: suite) X.env) (fun f s₂ =>
      wpAny (model X.prog X.w) X.A (do bindName X.env n .none; unbindBehindTheSuite X.env n pos') (fun _ s₃ => R f s₃) X.xe s₂) Ee s₁) Eo { s with heap := h } := by
  refine store_ok (X := X.suite a ((a, o) :: (X.pn ++ pins))) (v := .ref a) S hN hi (.inl hln) rfl (fun s₁ S₁ => ?_) (.inr hln)
  refine wpAny_mono ((hsu a o cls d (X.pn ++ pins) e2 ⟨_, e3⟩).run [] s₁ _ H _ S₁ w) (fun f s₂ q => ?_) fun _ _ z => z.elim
  have close : ∀ {σ₂ : L2.St} {H₂ : Hp}, Inv (X.suite a ((a, o) :: (X.pn ++ pins))) [] σ₂ H₂ s₂ → (∀ s₃, Inv X pins (σ₂.set i none) H₂ s₃ → R f s₃) → wpAny (model X.prog X.w) X.A (do bindName X.env n .none; unbindBehindTheSuite X.env n pos') (fun _ s₃ => R f s₃) X.xe s₂ :=
    fun S₂ k => gone_ok (S₂.unsuite ok) hN hi hln k
  match f, q with
  | .next, ⟨_, _, S₂, q₂⟩ => exact close S₂ fun _ J => hR _ _ ⟨_, _, J, q₂⟩
  | .brk, ⟨_, _, S₂, q₂⟩ => exact close S₂ fun _ J => hR _ _ ⟨_, _, J, q₂⟩
  | .cont, ⟨_, _, S₂, q₂⟩ => exact close S₂ fun _ J => hR _ _ ⟨_, _, J, q₂⟩
  | .ret _, ⟨_, _, _, S₂, r, q₂⟩ => exact close S₂ fun _ J => hR _ _ ⟨_, _, _, J, r, q₂⟩
/-- the clauses, from the first on -/
theorem Came.through (ok : Cx.Ok X) (hs : X.stack = X.env :: X.outer) (hf : X.env.frame = some X.env.locals) (hN : X.N.Nodup) (tk : Takes X Wout) : ∀ {hds : List ExceptHandler} {l : List (Value × Nat × (Addr → Value → Option Addr → TS))} {h : Heap}, HdsAs X hds l → Came X pins σ H a cls d B sI s h →
    wAsM X.K Wout D l cls d σ H → wpAny (model X.prog X.w) X.A (handleBy (.ref a) X.env hds) (SP X pins D) X.xe { s with heap := h }
  | _, _, _, .nil, c, w => c.on hs hf tk w
  | _, _, h, .cons (x := x) (c := cv) (np := np) hi hln hc hsu r, c, ⟨b, hb, yes, no⟩ => by
    obtain ⟨o, vs, e1, e2, e3, S⟩ := c.in hf
    have name : ∀ {Q E : Value → Shared → Prop}, Q cv { s with heap := h } → wpAny (model X.prog X.w) (X.A.mark (some (.ref a))) (eval (.Name x np) X.env) Q E { s with heap := h } := fun {Q E} q => by
      rcases hc with ⟨g, nd, m | ⟨m, v, nn⟩⟩
      · exact ld_glob (X := X.suite a ((a, o) :: (X.pn ++ pins))) S g m q nd
      · exact ld_blt (X := X.suite a ((a, o) :: (X.pn ++ pins))) S g m v q nn nd
    have of : PySem.W.Looks (model X.prog X.w) h (typeOf (.ref a)) cls := fun _ _ _ _ k q => wpAny_typeOf_ref (k _ _ e1) (by rw [e2.1]; exact q)
    refine wpAny_handleBy_cons (codeAny_handlers_test (name ((PySem.W.exm_one (M := model X.prog X.w) c.here.kIn of hb).here ?_))) (by intro z; cases z)
    match b, yes, no with
    | false, _, no => exact Came.through ok hs hf hN tk r c (no rfl)
    | true, yes, _ =>
      refine codeAny_handlers_suite_as (HandSPX.lands_againZ c.fl fun h' f' u => ?_)
      have c' := c.again f' u
      obtain ⟨o', vs', _, e2', e3', S'⟩ := c'.in hf
      exact c'.go ok hN hf hi hln hsu (yes rfl a c.free) o' vs' e2' e3' S' fun f s' q => by
        cases f <;> exact q
end
theorem ps_try_asM (hs : X.stack = X.env :: X.outer) (hf : X.env.frame = some X.env.locals) (hN : X.N.Nodup) (tk : Takes X Wout)
    (hb : ∀ (W : WX) (pn : List (Addr × Obj)) (xe : Value → Shared → Prop), Takes (X.tr pn xe) W → PassesOwn (model X.prog X.w) X.A X.env xe → PSs (X.tr pn xe) body (tb W))
    (hh : HdsAs X (h₀ :: hds) l) : PS X (.Try body (h₀ :: hds) [] [] pos) (fun D σ H => tb (wAsM X.K Wout D l) D σ H) := by
  refine ⟨fun pins s σ H D I w => wpAny_Try_except ?_⟩
  have ok := I.ok
  refine wpAny_mono ((hb (wAsM X.K Wout D l) (X.pn ++ pins) (fun e s₁ => wpAny (model X.prog X.w) X.A (noteFrame e X.env) (fun _ s₂ => wpAny (model X.prog X.w) X.A (setFlight e none) (fun _ s₃ =>
    wpAny (model X.prog X.w) X.A (handleBy e X.env (h₀ :: hds)) (SP X pins D) X.xe s₃) X.xe s₂) X.xe s₁) ?_ PassesOwn.looking).run [] s σ H D (I.toTry _) w) ?_ fun _ _ z => z
  · rintro u s' ⟨a, B, sI, _, σ', H', cls, d, rfl, J, nb, up, sky, na, os, ag, w'⟩
    exact Sky.land Zc.steady (ok.frames.trans (by rw [hs])) hf (hs ▸ sky) fun h' fl up' => Came.through ok hs hf hN tk hh ⟨J.ofTry ok, nb, na, os, ag, fl, up.trans up'⟩ w'
  · rintro f s' q
    match f, q with
    | .next, ⟨_, _, J, q⟩ => exact wpAny_execs_nil ⟨_, _, J.ofTry ok, q⟩
    | .brk, ⟨_, _, J, q⟩ => exact ⟨_, _, J.ofTry ok, q⟩
    | .cont, ⟨_, _, J, q⟩ => exact ⟨_, _, J.ofTry ok, q⟩
    | .ret _, ⟨_, _, _, J, r, q⟩ => exact ⟨_, _, _, J.ofTry ok, r, q⟩
end
end Jf
set_option Elab.async false
set_option linter.all false
set_option maxRecDepth 100000
set_option maxHeartbeats 4000000
namespace Jf
open PySem PySem.Spec PyProof.Rows L2 HT
/-! ### t[::-1] of a tuple -/
section
variable {prog : Program} {w : World} {A : Around} {E : Value → Shared → Prop} {s : Shared}
theorem rev_adjust (n : Nat) : Builtin.Slice.sliceAdjust none none (-1) (n : Int) = ((n : Int) - 1, -1) := by
  unfold Builtin.Slice.sliceAdjust
  simp
theorem rev_places (n : Nat) : Builtin.Slice.slicePlaces ((n : Int) - 1) (-1) (-1) = n := by
  unfold Builtin.Slice.slicePlaces
  have h1 : ¬ ((-1 : Int) > 0) := by decide
  simp only [h1, if_false]
  by_cases h : (n : Int) - 1 > -1
  · rw [if_pos h, show (- -1 : Int) = 1 by decide, Int.ediv_one]
    omega
  · rw [if_neg h]
    omega
theorem sliceApplied_rev {sl : Addr} {vl vu vs : Value} {n : Nat} {Q : Int × Int × Nat → Shared → Prop} (hs : s.heap.IsSliceOf sl vl vu vs) (pl : IsPart vl none) (pu : IsPart vu none) (ps : IsPart vs (some (-1)))
    (h : Q ((n : Int) - 1, -1, n) s) : wpAny (model prog w) A (Builtin.Slice.sliceApplied (.ref sl) (pure (n : Int))) Q E s := by
  obtain ⟨os, hos, hcs, hds⟩ := id hs
  unfold Builtin.Slice.sliceApplied Builtin.Slice.sliceFields
  refine wpAny_bind (wpAny_bind (wpAny_field hos hds (x := vl) rfl (wpAny_bind (wpAny_field hos hds (x := vu) rfl (wpAny_bind (wpAny_field hos hds (x := vs) rfl (wpAny_pure ?_)))))))
  refine wpAny_bind (slicePart_ ps ?_)
  show wpAny _ _ (if ((-1 : Int) == 0) = true then _ else _) _ _ s
  rw [if_neg (by decide)]
  refine wpAny_bind (slicePart_ pl (wpAny_bind (slicePart_ pu (wpAny_bind (wpAny_pure ?_)))))
  show wpAny _ _ (match Builtin.Slice.sliceAdjust none none (-1) (n : Int) with | (lo, hi) => pure (lo, (-1 : Int), Builtin.Slice.slicePlaces lo hi (-1))) _ _ s
  rw [rev_adjust n]
  show wpAny _ _ (pure ((n : Int) - 1, (-1 : Int), Builtin.Slice.slicePlaces ((n : Int) - 1) (-1) (-1))) _ _ s
  rw [rev_places]
  exact wpAny_pure h
theorem pick_rev (xs : Array Value) : ((List.range xs.size).filterMap fun (m : Nat) => xs[((xs.size : Int) - 1 + (m : Int) * (-1)).toNat]?).toArray = xs.toList.reverse.toArray := by
  have e : (fun (m : Nat) => xs[((xs.size : Int) - 1 + (m : Int) * (-1)).toNat]?) = fun m => xs[xs.size - 1 - m]? := by
    funext m
    have : ((xs.size : Int) - 1 + (m : Int) * (-1)).toNat = xs.size - 1 - m := by omega
    rw [this]
  rw [e]
  have e2 : ((List.range xs.size).filterMap fun m => xs[xs.size - 1 - m]?) = ((List.range xs.size).map fun m => xs.size - 1 - m).filterMap (xs[·]?) := by
    rw [List.filterMap_map]
    rfl
  rw [e2, PySem.W.krv_range, List.filterMap_reverse, PySem.W.krv_all]
theorem getItem_tuple_rev {t sl : Addr} {items : Array Value} {vl vu vs : Value} {Q : Value → Shared → Prop} (ht : IsTup s.heap t items) (hs : s.heap.IsSliceOf sl vl vu vs) (pl : IsPart vl none) (pu : IsPart vu none) (ps : IsPart vs (some (-1)))
    (h : Q (.ref s.heap.objs.size) { s with heap := s.heap.push { cls := .type "tuple", data := .seq items.toList.reverse.toArray } })
    (hsz : items.size ≤ sizeLine) : wpAny (model prog w) A (getItem (.ref t) (.ref sl)) Q E s := by
  have htake : sizeOk (.seq items.toList.reverse.toArray) := by
    show items.toList.reverse.toArray.size ≤ sizeLine
    rw [List.size_toArray, List.length_reverse, Array.length_toList]
    exact hsz
  obtain ⟨os, hos, hcs, hds⟩ := id hs
  have hTs : s.TypeIs (.ref sl) "slice" := ⟨os, hos, hcs⟩
  unfold getItem
  try with_reducible refine wpAny_holding ?_
  first | refine wpAny_bind (wpAny_pure ?_) | skip
  refine wpAny_bind (wpAny_sequenceKey ht.typeIs (by decide) ?_)
  refine wpAny_bind (wpAny_callSpecial?_slot (name := Str.ofString "__getitem__") ht.typeIs PyProof.Rows.slot_tuple_getitem
    (wpAny_call_entry PyProof.Rows.slot_tuple_getitem ht.typeIs entry_tuple_getitem ?_ (args_tuple_getitem _ _)))
  show wpAny _ _ (Builtin.Tuple.tupleItemsOf (.ref t) >>= _) _ _ s
  refine wpAny_bind (tupleItemsOf_ ht ?_)
  refine wpAny_bind (wpAny_typeOf hTs ?_)
  rw [if_pos (by decide)]
  refine wpAny_bind (sliceApplied_rev hs pl pu ps ?_)
  have hno : ¬ ((((items.size : Int) - 1) == 0 && (-1 : Int) == 1 && items.size == items.size) = true) := by
    intro q
    rw [Bool.and_eq_true, Bool.and_eq_true] at q
    exact absurd q.1.2 (by decide)
  show wpAny _ _ (if (((items.size : Int) - 1) == 0 && (-1 : Int) == 1 && items.size == items.size) = true then _ else _) _ _ s
  rw [if_neg hno, pick_rev]
  first
    | exact wpAny_bind (m := Builtin.Tuple.tupleExact _) (wpAny_newObj_type (wpAny_pure ⟨_, rfl, wpAny_pure h⟩) htake)
    | exact wpAny_bind (m := Builtin.Tuple.tupleExact _) (wpAny_newObj_type (wpAny_bind (wpAny_pure (wpAny_pure ⟨_, rfl, wpAny_pure h⟩))) htake)
    | exact wpAny_bind (wpAny_bind (m := Builtin.Tuple.tupleExact _) (wpAny_newObj_type (wpAny_pure (wpAny_pure ⟨_, rfl, wpAny_pure h⟩)) htake))
    | exact wpAny_bind (wpAny_bind (m := Builtin.Tuple.tupleExact _) (wpAny_newObj_type (wpAny_pure ⟨_, rfl, wpAny_pure h⟩) htake))
end
def tRevT (K : PySem.W.Frag) (te : TE) : TE := fun σ H Q => te σ H fun x H1 => ∃ a xs, x = .ref a ∧ SqT K H1 a xs ∧ ∀ p, H1 p = none → Q (.ref p) (upd H1 p (.tup xs.reverse))
theorem pe_revT {X : Cx} {e : Expr} {te : TE} {k : Nat} {p1 p2 p3 pos : Pos} (he : PE X e te) : PE X (.Subscript e (.Slice none none (some (.UnaryOp .USub (.Constant (.int 1) k p1) p2)) p3) pos) (tRevT X.K te) := by
  refine ⟨fun pins s σ H Q I h => ?_⟩
  refine Subscript_ (thn (he.run pins s σ H _ I h) fun v s1 ⟨x, H1, I1, r1, q1⟩ => ?_)
  obtain ⟨a, xs, ex, hx, q⟩ := q1
  subst ex
  cases r1
  have hst : PO X (some (.UnaryOp .USub (.Constant (.int 1) k p1) p2)) (tPart (tUn (rU fun i => .int (-i)) (tC (.int 1)))) := po_some (pe_un un_neg pe_int)
  refine wpAny_Slice (thn (po_none.run pins s1 σ H1 (fun o H2 => o = none ∧ H2 = H1) I1 ⟨rfl, rfl⟩) fun vl s2 ⟨l, H2, I2, pl, el, e2⟩ => ?_)
  subst el e2
  refine thn (po_none.run pins s2 σ H2 (fun o H3 => o = none ∧ H3 = H2) I2 ⟨rfl, rfl⟩) fun vu s3 ⟨u, H3, I3, pu, eu, e3⟩ => ?_
  subst eu e3
  refine thn (hst.run pins s3 σ H3 (fun o H4 => o = some (-1) ∧ H4 = H3) I3 ⟨1, rfl, -1, rfl, rfl, rfl⟩) fun vs s4 ⟨o, H4, I4, ps, eo, e4⟩ => ?_
  subst eo e4
  have I5 : Inv X pins σ H4 { s4 with heap := s4.heap.push { cls := .type "slice", data := .fields #[vl, vu, vs] } } := I4.kept (t' := s4.toks) fun b ob q => Heap.get?_push_of_some _ q
  obtain ⟨its, r, ht, hz⟩ := I5.tuple hx
  have hlen := r.length
  show wpAny (model X.prog X.w) X.A (subscriptTail e (.Slice none none (some (.UnaryOp .USub (.Constant (.int 1) k p1) p2)) p3) (.ref a) (.ref s4.heap.objs.size)) (EP X pins σ Q) X.xe { s4 with heap := s4.heap.push { cls := .type "slice", data := .fields #[vl, vu, vs] } }
  refine tail_any (ops := [.ref a, .ref s4.heap.objs.size]) ht.typeIs (PyProof.Rows.slot_tuple_getitem.lookup) ?_ (by with_unfolding_all rfl)
  refine getItem_tuple_rev ht (Heap.IsSliceOf.new _ vl vu vs) pl pu ps ?_ (by rw [List.size_toArray]; omega)
  refine ⟨.ref _, _, I5.laid (t' := s4.toks) (o := .tup xs.reverse) (fun b ob q => Heap.get?_push_of_some _ q) (Nat.le_refl _) ?_, rfl, q _ (I5.hok.fresh (Nat.le_refl _))⟩
  exact ⟨by rw [List.length_reverse]; exact hz, _, r.reverse, IsTup.new _ _⟩
end Jf
set_option Elab.async false
set_option linter.all false
set_option maxRecDepth 100000
set_option maxHeartbeats 4000000
namespace Jf
open PySem PySem.Spec PyProof.Rows L2 Evl GxR
/-! ### all but tables stays -/
def ExT (H H' : Hp) : Prop := ∀ b o, (∀ ps, o ≠ HO.tbl ps) → H b = some o → H' b = some o
def TBs (Ts : List Addr) (H : Hp) : Prop := ∀ t ∈ Ts, TabG H t
section
variable {K : PySem.W.Frag} {p a : Addr} {Ts : List Addr} {H H1 H2 H' : Hp} {xs : List V} {v : V} {d : PyData} {b : Nat} {q : Rat}
theorem ExT.refl (H : Hp) : ExT H H := fun _ _ _ h => h
theorem ExT.trans (e : ExT H H1) (e' : ExT H1 H2) : ExT H H2 := fun b o n h => e' b o n (e b o n h)
theorem Ex.t (e : Ex H H') : ExT H H' := fun b o _ h => e b o h
theorem ExT.l (e : ExT H H') (h : H a = some (.lst xs)) : H' a = some (.lst xs) := e a _ (fun _ z => nomatch z) h
theorem ExT.k {kvs : List (Key × V)} (e : ExT H H') (h : H a = some (.dK kvs)) : H' a = some (.dK kvs) := e a _ (fun _ z => nomatch z) h
theorem ExT.sl (e : ExT H H') (h : SqL K H a xs) : SqL K H' a xs := by
  rcases h with (h | ⟨o, h⟩) | h
  · exact .inl (.inl (e a _ (fun _ z => nomatch z) h))
  · exact .inl (.inr ⟨o, e a _ (fun _ z => nomatch z) h⟩)
  · exact .inr h
theorem ExT.st (e : ExT H H') (h : SqT K H a xs) : SqT K H' a xs := by
  rcases h with (h | ⟨o, h⟩) | h
  · exact .inl (.inl (e a _ (fun _ z => nomatch z) h))
  · exact .inl (.inr ⟨o, e a _ (fun _ z => nomatch z) h⟩)
  · exact .inr h
end
section
variable {K : PySem.W.Frag} {p : Addr} {H H' : Hp}
mutual
theorem Dq.xt (e : ExT H H') : ∀ (d : PyData) (v : V), Dq K p H v d → Dq K p H' v d
  | _, _, .non => .non
  | _, _, .bl b => .bl b
  | _, _, .int i => .int i
  | _, _, .str x => .str x
  | _, _, .lst n m h hs => .lst n m (ExT.l e h) (DqAll.xt e _ _ hs)
  | _, _, .tup h hs => .tup (ExT.st e h) (DqAll.xt e _ _ hs)
  | _, _, .emp h => .emp (ExT.k e h)
theorem DqAll.xt (e : ExT H H') : ∀ (ds : List PyData) (vs : List V), DqAll K p H vs ds → DqAll K p H' vs ds
  | _, _, .nil => .nil
  | _, _, .cons h hs => .cons (Dq.xt e _ _ h) (DqAll.xt e _ _ hs)
end
end
section
variable {K : PySem.W.Frag} {p a : Addr} {Ts : List Addr} {H H1 H2 H' : Hp} {xs : List V} {v : V} {d : PyData} {b : Nat} {q : Rat}
theorem Fr.xt (e : ExT H H') (h : Fr K b q v H) : Fr K b q v H' := by
  obtain ⟨a, rfl, h, x⟩ := h
  exact ⟨a, rfl, e.st h, x⟩
theorem TBs.ex (h : TBs Ts H) (e : Ex H H') : TBs Ts H' := fun t ht => by
  obtain ⟨ps, h1, h2⟩ := h t ht
  exact ⟨ps, e _ _ h1, h2⟩
/-- a list's change leaves the tables -/
theorem TBs.upd {xs ys : List V} (h : TBs Ts H) (hp : H p = some (.lst xs)) (e : ∀ b o, b ≠ p → H b = some o → H' b = some o) : TBs Ts H' := fun t ht => by
  obtain ⟨ps, h1, h2⟩ := h t ht
  exact ⟨ps, e _ _ (by rintro rfl; rw [hp] at h1; cases h1) h1, h2⟩
theorem Tabd.t {T : Addr} (h : TabG H T) (t : Tabbed T H H') : ExT H H' := fun b o n e => by
  have hb : b ≠ T := by
    rintro rfl
    obtain ⟨ps, h1, _⟩ := h
    rw [e] at h1
    exact n ps (Option.some.inj h1)
  rw [t.2 b hb]
  exact e
theorem TBs.tb {T : Addr} (h : TBs Ts H) (t : Tabbed T H H') : TBs Ts H' := fun t' ht => by
  by_cases e : t' = T
  · subst e
    exact t.1
  · obtain ⟨ps, h1, h2⟩ := h t' ht
    exact ⟨ps, by rw [t.2 t' e]; exact h1, h2⟩
end
/-- a list and another: a new list, not sys.modules -/
def rCatN : R2 := fun x y H Q => ∃ l b xs zs, x = .ref l ∧ y = .ref b ∧ H l = some (.lst xs) ∧ H b = some (.lst zs) ∧ xs.length + zs.length ≤ sizeLine ∧ ∀ p, H p = none → p ≠ sysModules → Q (.ref p) (upd H p (.lst (xs ++ zs)))
theorem op_catN {X : Cx} : OpR X (binaryOp .Add) rCatN := by
  intro pins s σ H x y v u Q I rx ry h
  obtain ⟨l, b, xs, zs, rfl, rfl, hH, hB, hz, q⟩ := h
  cases rx
  cases ry
  obtain ⟨z, its, n, r, hl, e⟩ := I.lstM hH
  obtain ⟨z2, its2, n2, r2, hl2, e2⟩ := I.lstM hB
  refine PySem.P.add_list e e2 ?_ (by rw [List.size_toArray, List.size_toArray]; omega)
  have ea : its.toArray ++ its2.toArray = (its ++ its2).toArray := by simp
  rw [ea]
  exact ⟨.ref _, _, I.lnew (t' := s.toks) (r.append r2) (by rw [List.length_append]; omega), rfl, q _ I.fresh (Nat.ne_of_gt I.big)⟩
/-- a field of the error that a suite holds, whichever of our classes it is of -/
def tXfE (K : PySem.W.Frag) (a : Addr) (cls : Value) (d : Option Addr) (f : Str) (te : TE) : TE := fun σ H Q => te σ H fun x H1 => x = .ref a ∧ ∃ (C dd : Addr) (fs : List (Str × V)) (v : V), cls = .ref C ∧ XfC K C ∧ PySem.W.findIn K (.ref C) f = some none ∧ d = some dd ∧ H1 dd = some (.xd fs) ∧ fs.lookup f = some v ∧ Q v H1
theorem pe_xfE {X : Cx} {a : Addr} {oe : Obj} {cls : Value} {d : Option Addr} {pn : List (Addr × Obj)} {e : Expr} {te : TE} {pos : Pos} {n : Str}
    (hz : Zc cls d oe) (hf : ∃ vs, oe.data = .fields vs) (he : PE (X.suite a ((a, oe) :: pn)) e te) (hb : attributeBase e n X.env (eval e X.env) = eval e X.env := by rfl) :
    PE (X.suite a ((a, oe) :: pn)) (.Attribute e n pos) (tXfE X.K a cls d n te) := by
  refine ⟨fun pins s σ H Q I h => ?_⟩
  refine attr_of hb (thn (he.run pins s σ H _ I h) fun u s1 hh => ?_)
  obtain ⟨x, H1, I1, rx, ex, C, dd, fs, v, ec, T, hno, ed, ea, l, q⟩ := hh
  subst ex
  obtain rfl : u = Value.ref a := rx
  subst ec
  subst ed
  have ha := (I1.pin (a, oe) (List.mem_append_left _ List.mem_cons_self)).1
  obtain ⟨vs, hd⟩ := hf
  have hx : ObjOk X.prog X.w H1 s1.heap dd (.xd fs) := I1.hok dd _ ea
  obtain ⟨mA, hns, hr⟩ := hx
  obtain ⟨od, ho, hl⟩ := lookIn_ns hns
  obtain ⟨u, hu, ru⟩ := RelO.some_of (v := v) (o := mA n) (by rw [← l]; exact hr n)
  have J : PySem.W.InstAt s1.heap a oe C (some od) := ⟨ha, hz.1, by unfold PySem.W.notCls; rw [hd] <;> rfl, by rw [hz.2]; exact ho⟩
  exact HandSPX.exc_get I1.kIn J T.ga T.gg T.exC (PySem.W.findObj_own T.hdC hno rfl (by rw [hl, hu])) (handed_of ru) ⟨v, H1, I1.tok _, ru, q⟩
end Jf
set_option Elab.async false
set_option linter.all false
set_option maxRecDepth 100000
set_option maxHeartbeats 4000000
/-! ### enumerate(x, start=c) of a list -/
namespace PySem
open PyProof.Rows
section
variable {M : Model} {A : Around} {E : Value → Shared → Prop} {s : Shared} {env : Env}
/-- a built-in class called with keywords -/
theorem jk_callWith {pos : Pos} {T : String} {e : Expr} {rest : List Expr} {kws : List Keyword} {Q : Value → Shared → Prop}
    (h : wpAny M A (spliced (backTo pos (starEach (e :: rest) env))) (fun vs s₁ => wpAny M A (evalAll ((backToKw pos (keywordEach kws env)).map (·.2)))
      (fun kvs s₂ => wpAny M A (call (.type T) vs (((backToKw pos (keywordEach kws env)).filterMap (·.1)).zip kvs)) Q E s₂) E s₁) E s)
    (he : backTo pos (starEach (e :: rest) env) = (false, eval e env) :: backTo pos (starEach rest env) := by rfl)
    (hplain : (backTo pos (starEach (e :: rest) env)).any (·.1) = false := by rfl)
    (hall : (backToKw pos (keywordEach kws env)).all (·.1.isSome) = true := by rfl)
    (hkw : (backToKw pos (keywordEach kws env)).any (·.1.isNone) = false := by rfl) :
    wpAny M A (callWith pos (.type T) [] (backTo pos (starEach (e :: rest) env)) (backToKw pos (keywordEach kws env))) Q E s := by
  unfold callWith
  have h0 : wpAny M A (evalArgs (.type T) true (backTo pos (starEach (e :: rest) env)) (backToKw pos (keywordEach kws env))) (fun a s₁ => wpAny M A (call (.type T) ([] ++ a.pos) a.kw) Q E s₁) E s := by
    rw [he] at h ⊢
    exact evalArgs_kwB hall h
  refine wpAny_bind (wpAny_holding (wpAny_mono h0 (fun a s₁ h₁ => wpAny_bind (wpAny_standAt ?_)) fun _ _ x => x))
  simp only [hplain, hkw, Bool.or_false]
  refine wpAny_bind (wpAny_pure ?_)
  exact wpAny_bind (wpAny_mono h₁ (fun r s₂ hr => wpAny_bind (wpAny_holding (wpAny_point (wpAny_pure hr)))) fun _ _ x => x)
end
section
variable {prog : Program} {w : World} {A : Around} {E : Value → Shared → Prop} {s : Shared} {e it t : Addr} {i : Nat} {m : Int} {items : Array Value} {x old : Value}
theorem jk_enumE {Q : Option Value → Shared → Prop} (hh : A.handled = none) (he : IsEnum s.heap e it m old) (a : s.heap.IsListIter it t i) (b : s.heap.IsList t items) (hx : items[i]? = none) (k : ∀ h', Heap.ExtBut it s.heap h' → Q none { s with heap := h' }) :
    wpAny (model prog w) A (pyNext (.ref e)) Q E s := by
  have T : s.TypeIs (.ref e) "enumerate" := ⟨_, he, rfl⟩
  unfold pyNext
  refine wpAny_bind (wpAny_attempt (wpAny_callSpecial?_slot (name := Str.ofString "__next__") T F.slot_enumerate_next (wpAny_call_entry F.slot_enumerate_next T F.entry_enumerate_next
    (wpAny_bind (m := field (.ref e) 2) (wpAny_field he rfl (x := .ref it) rfl (wpAny_bind (wpAny_nextOf_list_end hh a b hx fun h' y g ⟨o, g1, g2⟩ => ?_)))) (F.args_enumerate_next_1 _))))
  exact wpAny_bind (wpAny_isInstance (T := "StopIteration") (b := true) ⟨o, g1, g2⟩ isSubtype_stop (wpAny_pure (k _ g)))
end
end PySem
namespace Jf
open PySem PySem.Spec PyProof.Rows L2 Evl
/-- the list at a, each item in a new pair with its number, counted from c -/
def IteK (K : PySem.W.Frag) (a : Addr) (c : Int) : It :=
  ⟨fun i H => ∃ (xs : List V) (x : V), SqL K H a xs ∧ xs[i]? = some x, fun i H v H' => ∃ T x, v = .ref T ∧ H T = none ∧ H' = upd H T (.tup [.int (c + (i : Nat)), x]) ∧ ∀ xs, SqL K H a xs → xs[i]? = some x, fun i H => ∃ xs : List V, SqL K H a xs ∧ xs.length ≤ i⟩
theorem turn_enumK {P : Program} {w : World} {K : PySem.W.Frag} {elts : List Expr} {kk : Nat} {tpos : Pos} (a e it : Addr) (c : Int) :
    Turn P w K (.Tuple elts kk tpos) (IteK K a c) [e, it] e (fun i h => (∃ old, IsEnum h e it (c + ((i : Nat) : Int)) old) ∧ h.IsListIter it a i ∧ e ≠ it) where
  mem := by simp
  obj := fun i h st b hb => by
    obtain ⟨⟨old, he⟩, ⟨o, ho, hc, hd⟩, _⟩ := st
    have e' : b = e ∨ b = it := by simpa using hb
    rcases e' with z | z
    · rw [z]; exact ⟨_, he, fun v q => nomatch q⟩
    · rw [z]; exact ⟨o, ho, fun v q => by rw [hd] at q; cases q⟩
  keep := fun i h h' st k => let ⟨⟨old, he⟩, hi, hne⟩ := st; ⟨⟨old, k e (by simp) _ he⟩, hi.at fun o q => k it (by simp) o q, hne⟩
  item := by
    intro X hP hw hK hc i pins s σ H E I hf st hg
    subst hP hw hK
    obtain ⟨⟨old, he⟩, hit, hne⟩ := st
    obtain ⟨xs, x, hq, hx⟩ := hg
    obtain ⟨its, rv, p, hz⟩ := I.list hq
    obtain ⟨u, hu, ru⟩ := rv.get hx
    have hel : e < s.heap.objs.size := Heap.lt_size he
    have hil : it < s.heap.objs.size := by obtain ⟨_, q, _⟩ := hit; exact Heap.lt_size q
    have ea : e ≠ a := by
      rintro rfl
      obtain ⟨o, h1, h2, _⟩ := p.isList
      rw [he] at h1
      cases h1
      exact absurd h2 (by simp)
    have ia : a ≠ it := by
      rintro rfl
      obtain ⟨o, h1, h2, _⟩ := p.isList
      obtain ⟨o', g1, g2, _⟩ := hit
      rw [h1] at g1
      cases g1
      rw [h2] at g2
      exact absurd g2 (by simp)
    have hlen := rv.length
    have hil2 : i < its.toArray.size := by
      have := (List.getElem?_eq_some_iff.mp hu).1
      simpa using this
    refine wpAny_pyNext_enum_itemC (Draws.list (prog := X.prog) (w := X.w) (A := X.A.in1) (I.ok.hd hc) it a ia its.toArray) he ⟨hit, p.isList⟩ hil2 hne (by simp [hne, ea]) fun x' h' tk hP ho hit' hT hsz hk => ?_
    obtain rfl : u = x' := by
      have hu' : its.toArray[i]? = some u := by simpa using hu
      have := hu'.symm.trans hP
      exact Option.some.inj this
    refine ⟨_, rfl, wpAny_letOwnedTupleGo_enum (s := { s with heap := h', toks := tk + 1 }) ho fun h'' he' sb => ?_⟩
    have hT2 : h''.get? s.heap.objs.size = some { cls := .type "tuple", data := .seq #[.int (c + (i : Nat)) tk, u] } := (sb.2 _ (Nat.ne_of_gt hel)).trans hT
    have new : ObjOk X.prog X.w (upd H s.heap.objs.size (.tup [.int (c + (i : Nat)), x])) h'' s.heap.objs.size (.tup [.int (c + (i : Nat)), x]) :=
      ⟨by show 2 ≤ sizeLine; decide, [.int (c + (i : Nat)) tk, u], .cons ⟨_, rfl⟩ (.cons ru .nil), ⟨_, hT2, rfl, _, rfl⟩⟩
    have I1 : Inv X pins σ (upd H s.heap.objs.size (.tup [.int (c + (i : Nat)), x])) { s with heap := h'', toks := tk + 1 } :=
      I.turnedNew (ch := [e, it]) (fun b ob hb q => (sb.2 b (fun z => hb (by simp [z]))).trans (hk b ob (fun z => hb (by simp [z])) (fun z => hb (by simp [z])) q)) hf (Nat.le_refl _) new
    refine ⟨.ref s.heap.objs.size, _, I1, rfl, ⟨_, x, rfl, I.hok.fresh (Nat.le_refl _), rfl, fun ys hy => by rw [I.list_inj hy hq]; exact hx⟩, ⟨⟨u, ?_⟩, hit'.1.at fun o q => (sb.2 it (Ne.symm hne)).trans q, hne⟩, fun b hb => ?_⟩
    · have e1 : c + ((i + 1 : Nat) : Int) = c + (i : Int) + 1 := by omega
      rw [e1]; exact he'
    · have hb' : b < s.heap.objs.size := by
        have e' : b = e ∨ b = it := by simpa using hb
        rcases e' with z | z
        · rw [z]; exact hel
        · rw [z]; exact hil
      rw [upd_ne (Nat.ne_of_lt hb')]
      exact (hf b hb).1
  done := by
    intro X hP hw hK hc i pins s σ H E I hf st hg
    subst hP hw hK
    obtain ⟨⟨old, he⟩, hit, hne⟩ := st
    obtain ⟨xs, hq, hx⟩ := hg
    obtain ⟨its, rv, p, hz⟩ := I.list hq
    obtain ⟨f0, f1, f2, f3, f4, f5⟩ := hf it (by simp)
    have hl := rv.length
    exact jk_enumE (I.ok.hd hc) he hit p.isList (by simp; omega) fun h' eb => ⟨rfl, I.turned (t' := s.toks) (fun b o hb q => eb b o hb q) f0 f1 f3 f4 f5⟩
  self := fun A i s Q E st h => let ⟨⟨_, he⟩, _⟩ := st; wpAny_pyIter_enum he h
def iEnumK (K : PySem.W.Frag) (ta tk : TA) : TI := fun σ H R => ta σ H fun vs H1 => tk σ H1 fun zs H2 => ∃ a xs c, vs = [.ref a] ∧ zs = [.int c] ∧ -(2 ^ 63) ≤ c ∧ c < 2 ^ 63 ∧ SqL K H2 a xs ∧ R (IteK K a c) H2
theorem pi_enumK {X : Cx} {e : Expr} {kws : List Keyword} {ta tk : TA} {p pos tpos : Pos} {elts : List Expr} {kk : Nat} (hg : Gl X "enumerate") (hm : X.mg "enumerate" = none) (ha : PA X [e] ta) (hk : PK X kws tk)
    (he : backTo pos (starEach [e] X.env) = (false, eval e X.env) :: backTo pos (starEach [] X.env) := by rfl) (hpl : (backTo pos (starEach [e] X.env)).any (·.1) = false := by rfl)
    (hall : (backToKw pos (keywordEach kws X.env)).all (·.1.isSome) = true := by rfl) (hnone : (backToKw pos (keywordEach kws X.env)).any (·.1.isNone) = false := by rfl) (hks : (backToKw pos (keywordEach kws X.env)).filterMap (·.1) = [Str.ofString "start"] := by rfl) :
    PI X (.Tuple elts kk tpos) (.Call (.Name "enumerate" p) [e] kws pos) (iEnumK X.K ta tk) := by
  refine ⟨fun pins s σ H R I h => ?_⟩
  refine wpAny_Call_Name_kw (ld_blt I hg hm boot_enumerate ?_)
  refine jk_callWith (thn (ha.run pos pins s σ H _ I h) fun us s1 ⟨vs, H1, I1, r1, q1⟩ => thn (hk.run pos pins s1 σ H1 _ I1 q1) fun ws s2 ⟨zs, H2, I2, r2, q2⟩ => ?_) he hpl hall hnone
  rw [hks]
  obtain ⟨a, xs, c, ex, ez, c0, c1, hq, q⟩ := q2
  subst ex ez
  obtain ⟨u, rfl, ru⟩ := vals1 r1
  obtain ⟨y, rfl, ry⟩ := vals1 r2
  cases ru
  obtain ⟨tc, rfl⟩ := ry
  obtain ⟨its, rv, p', hz⟩ := I2.list hq
  show wpAny _ _ (call (.type "enumerate") [.ref a] [(Str.ofString "start", .int c tc)]) _ _ _
  refine enum_begins_start (begins_list a its.toArray) p'.isList c0 c1 fun h' hE hit hsz hkp => wpAny_pyIter_enum hE ?_
  have I3 : Inv X pins σ H2 { s2 with heap := h' } := I2.kept (t' := s2.toks) hkp
  refine ⟨s2.heap.objs.size + 1, [s2.heap.objs.size + 1, s2.heap.objs.size], _, _, H2, rfl, I3, turn_enumK a (s2.heap.objs.size + 1) s2.heap.objs.size c, ⟨⟨.none, by
    rw [show c + ((0 : Nat) : Int) = c by omega]
    exact hE⟩, ⟨_, hit, rfl, rfl⟩, Nat.succ_ne_self _⟩, fun b hb => ?_, q⟩
  have e' : b = s2.heap.objs.size + 1 ∨ b = s2.heap.objs.size := by simpa using hb
  have hle : s2.heap.objs.size ≤ b := by
    rcases e' with z | z
    · rw [z]; exact Nat.le_add_right _ _
    · rw [z]; exact Nat.le_refl _
  exact I2.fpOk hle (I2.hok.fresh hle)
theorem walk_enumK {K : PySem.W.Frag} {a : Addr} {c : Int} {xs : List V} : Walk (IteK K a c) xs.length (fun H => SqL K H a xs) (YPair (fun i => some (.int (c + (i : Nat)))) (fun i => xs[i]?)) := by
  refine ⟨fun i _ hi q => ⟨xs, xs[i], q, by simp [hi]⟩, fun _ q => ⟨xs, q, Nat.le_refl _⟩, fun i H v H' _ q y => ?_⟩
  obtain ⟨T, x, h1, h2, h3, h4⟩ := y
  exact ⟨T, .int (c + (i : Nat)), x, h1, h2, h3, rfl, h4 xs q⟩
end Jf
set_option Elab.async false
set_option linter.all false
/-! forests of tasks: orders, the worth of an order, best orders set by set -/
namespace Jf
structure Fk where
  par : Option Nat
  pay : Rat
  fac : Rat
def parF (F : List Fk) (i : Nat) : Option Nat := (F[i]?).bind Fk.par
def payF (F : List Fk) (i : Nat) : Rat := ((F[i]?).map Fk.pay).getD 0
def facF (F : List Fk) (i : Nat) : Rat := ((F[i]?).map Fk.fac).getD 0
theorem parF_at {F : List Fk} {i : Nat} {t : Fk} (h : F[i]? = some t) : parF F i = t.par := by unfold parF; rw [h]; rfl
theorem payF_at {F : List Fk} {i : Nat} {t : Fk} (h : F[i]? = some t) : payF F i = t.pay := by unfold payF; rw [h]; rfl
theorem facF_at {F : List Fk} {i : Nat} {t : Fk} (h : F[i]? = some t) : facF F i = t.fac := by unfold facF; rw [h]; rfl
def worthF (F : List Fk) : List Nat → Rat
  | [] => 0
  | i :: r => payF F i + facF F i * worthF F r
def prodF (F : List Fk) : List Nat → Rat
  | [] => 1
  | i :: r => facF F i * prodF F r
theorem worth_app (F : List Fk) : ∀ a b : List Nat, worthF F (a ++ b) = worthF F a + prodF F a * worthF F b
  | [], b => by
    show worthF F b = 0 + 1 * worthF F b
    grind
  | i :: a, b => by
    show payF F i + facF F i * worthF F (a ++ b) = (payF F i + facF F i * worthF F a) + (facF F i * prodF F a) * worthF F b
    rw [worth_app F a b]
    grind
theorem prod_app (F : List Fk) : ∀ a b : List Nat, prodF F (a ++ b) = prodF F a * prodF F b
  | [], b => by
    show prodF F b = 1 * prodF F b
    grind
  | i :: a, b => by
    show facF F i * prodF F (a ++ b) = (facF F i * prodF F a) * prodF F b
    rw [prod_app F a b]
    grind
/-- whether a parent, if there is one, is told -/
def upL (o : Option Nat) (told : List Nat) : Bool := match o with
  | none => true
  | some p => decide (p ∈ told)
def okL (F : List Fk) (told : List Nat) (i : Nat) : Bool := decide (i < F.length) && (!decide (i ∈ told) && upL (parF F i) told)
def seqL (F : List Fk) : List Nat → List Nat → Bool
  | _, [] => true
  | told, i :: r => okL F told i && seqL F (told ++ [i]) r
theorem seqL_app (F : List Fk) : ∀ (a told b : List Nat), seqL F told (a ++ b) = (seqL F told a && seqL F (told ++ a) b)
  | [], told, b => by simp [seqL]
  | i :: a, told, b => by
    show (okL F told i && seqL F (told ++ [i]) (a ++ b)) = ((okL F told i && seqL F (told ++ [i]) a) && seqL F (told ++ i :: a) b)
    rw [seqL_app F a, Bool.and_assoc, List.append_assoc]
    rfl
/-- all orders of so many tasks, one longer each -/
def rowsF (F : List Fk) : Nat → List (List Nat)
  | 0 => [[]]
  | k + 1 => (rowsF F k).flatMap fun r => ((List.range F.length).filter (okL F r)).map fun i => r ++ [i]
theorem mem_rows (F : List Fk) : ∀ (k : Nat) (l : List Nat), l ∈ rowsF F k ↔ l.length = k ∧ seqL F [] l = true
  | 0, l => by
    show l ∈ [[]] ↔ _
    rw [List.mem_singleton, List.length_eq_zero_iff]
    constructor
    · rintro rfl
      exact ⟨rfl, rfl⟩
    · exact fun h => h.1
  | k + 1, l => by
    show l ∈ (rowsF F k).flatMap _ ↔ _
    rw [List.mem_flatMap]
    constructor
    · rintro ⟨r, hr, hl⟩
      obtain ⟨h1, h2⟩ := (mem_rows F k r).mp hr
      obtain ⟨i, hi, rfl⟩ := List.mem_map.mp hl
      obtain ⟨_, h3⟩ := List.mem_filter.mp hi
      refine ⟨by rw [List.length_append, h1]; rfl, ?_⟩
      rw [seqL_app, h2, Bool.true_and, List.nil_append]
      show (okL F r i && true) = true
      rw [h3]
      rfl
    · rintro ⟨h1, h2⟩
      obtain ⟨r, i, rfl⟩ : ∃ r i, l = r ++ [i] := by
        cases hl : l.reverse with
        | nil =>
          have := congrArg List.length hl
          rw [List.length_reverse, h1] at this
          cases this
        | cons i r => exact ⟨r.reverse, i, by rw [← List.reverse_reverse l, hl, List.reverse_cons]⟩
      rw [seqL_app, Bool.and_eq_true, List.nil_append] at h2
      have h3 : okL F r i = true := by
        have := h2.2
        show okL F r i = true
        simpa [seqL] using this
      refine ⟨r, (mem_rows F k r).mpr ⟨by simpa using h1, h2.1⟩, List.mem_map.mpr ⟨i, List.mem_filter.mpr ⟨?_, h3⟩, rfl⟩⟩
      unfold okL at h3
      simp only [Bool.and_eq_true, decide_eq_true_eq] at h3
      exact List.mem_range.mpr h3.1
theorem seqL_lt (F : List Fk) : ∀ (l told : List Nat), seqL F told l = true → ∀ i ∈ l, i < F.length
  | [], _, _, i, h => nomatch h
  | j :: r, told, h, i, hi => by
    simp only [seqL, Bool.and_eq_true] at h
    rcases List.mem_cons.mp hi with rfl | hi
    · have := h.1
      unfold okL at this
      simp only [Bool.and_eq_true, decide_eq_true_eq] at this
      exact this.1
    · exact seqL_lt F r _ h.2 i hi
/-! by bits -/
def addD (d i : Nat) : Nat := d ||| 2 ^ i
theorem add_bit (d i j : Nat) : (addD d i).testBit j = (d.testBit j || decide (i = j)) := by
  unfold addD
  rw [Nat.testBit_or, Nat.testBit_two_pow]
def upD (o : Option Nat) (d : Nat) : Bool := match o with
  | none => true
  | some p => d.testBit p
def okD (F : List Fk) (d i : Nat) : Bool := decide (i < F.length) && (!d.testBit i && upD (parF F i) d)
def seqD (F : List Fk) : Nat → List Nat → Bool
  | _, [] => true
  | d, i :: r => okD F d i && seqD F (addD d i) r
/-- the bits of what is told -/
def Told (d : Nat) (told : List Nat) : Prop := ∀ i, d.testBit i = decide (i ∈ told)
theorem Told.nil : Told 0 [] := fun i => by simp
theorem Told.add {d i : Nat} {told : List Nat} (h : Told d told) : Told (addD d i) (told ++ [i]) := fun j => by
  rw [add_bit, h j, Bool.eq_iff_iff, Bool.or_eq_true, decide_eq_true_iff, decide_eq_true_iff, decide_eq_true_iff, List.mem_append, List.mem_singleton]
  exact or_congr Iff.rfl eq_comm
theorem Told.ok {F : List Fk} {d : Nat} {told : List Nat} (h : Told d told) (i : Nat) : okD F d i = okL F told i := by
  unfold okD okL
  rw [h i]
  congr 2
  cases parF F i with
  | none => rfl
  | some p => exact h p
theorem Told.seq {F : List Fk} : ∀ (l : List Nat) {d : Nat} {told : List Nat}, Told d told → seqD F d l = seqL F told l
  | [], _, _, _ => rfl
  | i :: r, d, told, h => by
    show (okD F d i && seqD F (addD d i) r) = (okL F told i && seqL F (told ++ [i]) r)
    rw [h.ok, Told.seq r h.add]
/-- how many of the first n are told -/
def cntD (d : Nat) : Nat → Nat
  | 0 => 0
  | n + 1 => cntD d n + (if d.testBit n then 1 else 0)
theorem cnt_le (d : Nat) : ∀ n, cntD d n ≤ n
  | 0 => Nat.le_refl _
  | n + 1 => by
    have := cnt_le d n
    unfold cntD
    split <;> omega
theorem cnt_add {d i : Nat} (h : d.testBit i = false) : ∀ n, cntD (addD d i) n = cntD d n + (if i < n then 1 else 0)
  | 0 => rfl
  | n + 1 => by
    unfold cntD
    rw [cnt_add h n, add_bit]
    by_cases e : i = n
    · subst e
      rw [h]
      simp
    · by_cases l : i < n
      · simp [e, l, Nat.lt_succ_of_lt l]; omega
      · have : ¬ i < n + 1 := by omega
        simp [e, l, this]
theorem cnt_full {d : Nat} : ∀ {n}, cntD d n = n → ∀ i, i < n → d.testBit i = true
  | 0, _, i, h => absurd h (Nat.not_lt_zero _)
  | n + 1, h, i, hi => by
    unfold cntD at h
    have l := cnt_le d n
    by_cases b : d.testBit n
    · rw [if_pos b] at h
      by_cases e : i = n
      · rw [e]; exact b
      · exact cnt_full (n := n) (by omega) i (by omega)
    · rw [if_neg b] at h
      omega
theorem every_bit (n i : Nat) : (2 ^ n - 1).testBit i = decide (i < n) := Nat.testBit_two_pow_sub_one n i
theorem cnt_every : ∀ (m n : Nat), n ≤ m → cntD (2 ^ m - 1) n = n
  | m, 0, _ => rfl
  | m, n + 1, h => by
    unfold cntD
    rw [cnt_every m n (by omega), every_bit, decide_eq_true (show n < m by omega), if_pos rfl]
theorem cnt_zero : ∀ n, cntD 0 n = 0
  | 0 => rfl
  | n + 1 => by
    unfold cntD
    rw [cnt_zero n]
    simp
theorem full_every {d n : Nat} (hd : d < 2 ^ n) (h : cntD d n = n) : d = 2 ^ n - 1 := by
  refine Nat.eq_of_testBit_eq fun i => ?_
  rw [every_bit]
  by_cases l : i < n
  · rw [cnt_full h i l, decide_eq_true l]
  · rw [decide_eq_false l]
    exact Nat.testBit_lt_two_pow (Nat.lt_of_lt_of_le hd (Nat.pow_le_pow_right (by decide) (by omega)))
theorem add_lt {d i n : Nat} (hd : d < 2 ^ n) (hi : i < n) : addD d i < 2 ^ n := Nat.or_lt_two_pow hd (Nat.pow_lt_pow_right (by decide) hi)
theorem add_gt {d i : Nat} (h : d.testBit i = false) : d < addD d i := by
  have h1 : d ≤ addD d i := Nat.left_le_or
  have h2 : d ≠ addD d i := fun e => by
    have : d.testBit i = (addD d i).testBit i := congrArg (fun z : Nat => z.testBit i) e
    rw [add_bit, h] at this
    simp at this
  omega
theorem okD_lt {F : List Fk} {d i : Nat} (h : okD F d i = true) : i < F.length := by
  unfold okD at h
  simp only [Bool.and_eq_true, decide_eq_true_eq] at h
  exact h.1
theorem okD_bit {F : List Fk} {d i : Nat} (h : okD F d i = true) : d.testBit i = false := by
  unfold okD at h
  simp only [Bool.and_eq_true, Bool.not_eq_true'] at h
  exact h.2.1
theorem okD_cnt {F : List Fk} {d i : Nat} (h : okD F d i = true) : cntD (addD d i) F.length = cntD d F.length + 1 := by
  rw [cnt_add (okD_bit h), if_pos (okD_lt h)]
/-- a whole order from d on -/
def Full (F : List Fk) (d : Nat) (l : List Nat) : Prop := seqD F d l = true ∧ cntD d F.length + l.length = F.length
theorem full_cons {F : List Fk} {d i : Nat} {r : List Nat} : Full F d (i :: r) ↔ okD F d i = true ∧ Full F (addD d i) r := by
  unfold Full
  constructor
  · rintro ⟨h1, h2⟩
    simp only [seqD, Bool.and_eq_true] at h1
    refine ⟨h1.1, h1.2, ?_⟩
    rw [okD_cnt h1.1]
    rw [List.length_cons] at h2
    omega
  · rintro ⟨h1, h2, h3⟩
    rw [okD_cnt h1] at h3
    exact ⟨by simp [seqD, h1, h2], by rw [List.length_cons]; omega⟩
theorem full_iff {F : List Fk} {l : List Nat} : Full F 0 l ↔ l ∈ rowsF F F.length := by
  unfold Full
  rw [mem_rows, Told.nil.seq, cnt_zero, Nat.zero_add]
  exact ⟨fun h => ⟨h.2, h.1⟩, fun h => ⟨h.2, h.1⟩⟩
/-- every set that is not all has a task that is open, where parents stand ahead -/
theorem open_one {F : List Fk} (wf : ∀ i p, parF F i = some p → p < i) {d : Nat} (hd : d < 2 ^ F.length) (hn : d ≠ 2 ^ F.length - 1) : ∃ i, okD F d i = true := by
  have h1 : ∃ i, i < F.length ∧ d.testBit i = false := by
    apply Classical.byContradiction
    intro no
    refine hn (Nat.eq_of_testBit_eq fun i => ?_)
    rw [every_bit]
    by_cases l : i < F.length
    · rw [decide_eq_true l]
      cases hb : d.testBit i with
      | true => rfl
      | false => exact absurd ⟨i, l, hb⟩ no
    · rw [decide_eq_false l]
      exact Nat.testBit_lt_two_pow (Nat.lt_of_lt_of_le hd (Nat.pow_le_pow_right (by decide) (by omega)))
  have h2 : ∀ k i, i ≤ k → i < F.length → d.testBit i = false → ∃ i, okD F d i = true := by
    intro k
    induction k with
    | zero =>
      intro i l hi hb
      have : i = 0 := by omega
      subst this
      refine ⟨0, ?_⟩
      unfold okD
      rw [decide_eq_true hi, hb]
      cases hp : parF F 0 with
      | none => rfl
      | some p => exact absurd (wf 0 p hp) (Nat.not_lt_zero _)
    | succ k ih =>
      intro i l hi hb
      cases hp : parF F i with
      | none =>
        refine ⟨i, ?_⟩
        unfold okD
        rw [decide_eq_true hi, hb, hp]
        rfl
      | some p =>
        have lp := wf i p hp
        cases hq : d.testBit p with
        | false => exact ih p (by omega) (by omega) hq
        | true =>
          refine ⟨i, ?_⟩
          unfold okD
          rw [decide_eq_true hi, hb, hp]
          show (true && (!false && d.testBit p)) = true
          rw [hq]
          rfl
  obtain ⟨i, hi, hb⟩ := h1
  exact h2 i i (Nat.le_refl _) hi hb
structure Best (F : List Fk) (d : Nat) (q : Rat) (o : Option Nat) : Prop where
  has : ∃ l, Full F d l ∧ worthF F l = q ∧ l.head? = o
  most : ∀ l, Full F d l → worthF F l ≤ q
theorem Best.every (F : List Fk) : Best F (2 ^ F.length - 1) 0 none where
  has := ⟨[], ⟨rfl, by rw [cnt_every _ _ (Nat.le_refl _)]; rfl⟩, rfl, rfl⟩
  most := by
    rintro (_ | ⟨i, r⟩) h
    · exact Rat.le_refl
    · have := h.2
      rw [cnt_every _ _ (Nat.le_refl _), List.length_cons] at this
      omega
/-- one more task -/
theorem Best.step {F : List Fk} {d i : Nat} {q : Rat} (f0 : ∀ j, 0 ≤ facF F j) (g : ∀ j, okD F d j = true → ∃ b o, Best F (addD d j) b o ∧ payF F j + facF F j * b ≤ q) (hi : okD F d i = true) {b : Rat} {o : Option Nat} (hb : Best F (addD d i) b o) (hq : q = payF F i + facF F i * b) : Best F d q (some i) where
  has := by
    obtain ⟨l, h1, h2, h3⟩ := hb.has
    exact ⟨i :: l, full_cons.mpr ⟨hi, h1⟩, by show payF F i + facF F i * worthF F l = q; rw [h2, hq], rfl⟩
  most := by
    rintro (_ | ⟨j, r⟩) h
    · exfalso
      have h1 := h.2
      have h2 := okD_cnt hi
      have h3 := cnt_le (addD d i) F.length
      simp at h1
      omega
    · obtain ⟨hj, hr⟩ := full_cons.mp h
      obtain ⟨b', o', hb', le⟩ := g j hj
      have h1 := hb'.most r hr
      have h2 := Rat.mul_le_mul_of_nonneg_left h1 (f0 j)
      show payF F j + facF F j * worthF F r ≤ q
      grind
theorem Best.next {F : List Fk} {d i : Nat} {q : Rat} (f0 : ∀ j, 0 ≤ facF F j) (h : Best F d q (some i)) : okD F d i = true ∧ ∀ b o, Best F (addD d i) b o → q = payF F i + facF F i * b := by
  obtain ⟨l, h1, h2, h3⟩ := h.has
  cases l with
  | nil => cases h3
  | cons j r =>
    cases h3
    obtain ⟨hj, hr⟩ := full_cons.mp h1
    refine ⟨hj, fun b o hb => ?_⟩
    have a1 := hb.most r hr
    have a2 := Rat.mul_le_mul_of_nonneg_left a1 (f0 i)
    obtain ⟨l', h1', h2', _⟩ := hb.has
    have a3 := h.most (i :: l') (full_cons.mpr ⟨hj, h1'⟩)
    have e : payF F i + facF F i * worthF F r = q := h2
    have e' : worthF F (i :: l') = payF F i + facF F i * worthF F l' := rfl
    rw [e', h2'] at a3
    grind
theorem Best.stop {F : List Fk} {d : Nat} {q : Rat} (h : Best F d q none) : q = 0 ∧ Full F d [] := by
  obtain ⟨l, h1, h2, h3⟩ := h.has
  cases l with
  | nil => exact ⟨h2.symm, h1⟩
  | cons j r => cases h3
end Jf
set_option Elab.async false
set_option linter.all false
set_option maxRecDepth 100000
set_option maxHeartbeats 4000000
namespace Jf
open PySem PySem.Spec PyProof.Rows L2 Evl
/-- a list cut: a new list, not sys.modules -/
def rSlN (K : PySem.W.Frag) : V → Option Int → Option Int → Hp → VK → Prop := fun x lo hi H Q => ∃ a xs, x = .ref a ∧ SqL K H a xs ∧ ∀ p, H p = none → p ≠ sysModules → Q (.ref p) (upd H p (.lst (cutV xs lo hi)))
theorem sl_listN {X : Cx} : SlR X (rSlN X.K) := by
  intro pins s σ H x v vl vu lo hi sl Q I rx hs pl pu h
  obtain ⟨a, xs, rfl, hx, q⟩ := h
  cases rx
  obtain ⟨its, r, ht, hz⟩ := I.list hx
  have hlen := r.length
  refine ⟨"list", _, slot_list_getitem.lookup, ht.isList.typeIs, ?_⟩
  refine wpAny_getItem_list_slice ht.isList hs pl pu .none (by simp) ?_ (by rw [List.size_toArray] <;> omega)
  rw [slicePick_cut, ← hlen]
  have fr := I.hok.fresh (Nat.le_refl s.heap.objs.size)
  refine ⟨.ref s.heap.objs.size, _, I.laid (t' := s.toks) (o := .lst (cutV xs lo hi)) (fun b ob q => Heap.get?_push_of_some _ q) (Nat.le_refl _) ?_, rfl, q _ fr (Nat.ne_of_gt I.big)⟩
  exact ⟨Nat.le_trans (cutV_length xs lo hi) hz, _, 0, (r.drop (HT.sIx xs.length 0 lo)).take (HT.sIx xs.length xs.length hi - HT.sIx xs.length 0 lo), Heap.get?_push_size _ rfl⟩
end Jf
set_option Elab.async false
set_option linter.all false
set_option maxRecDepth 100000
set_option maxHeartbeats 4000000
namespace Jf
open PySem PySem.Spec PyProof.Rows L2 Evl
/-! sorted(d), d a dict whose keys are tuples of so many ints from 0 to 7 -/
theorem swo_by (k : Value → Int) : SrtO.Swo fun v u => decide (k v < k u) := by
  refine ⟨fun x y h => ?_, fun x y z h1 h2 => ?_⟩
  · have := of_decide_eq_true h
    exact decide_eq_false (by omega)
  · have := of_decide_eq_false h1
    have := of_decide_eq_false h2
    exact decide_eq_false (by omega)
section
variable {prog : Program} {w : World} {A : Around} {s : Shared}
theorem tups_sortable {d : Nat} {B : Int} {a : Addr} {vs : List Value} (hd : 1 ≤ d) (h2 : 2 ≤ vs.length) (x : TS.TupsOk s.heap d B vs) (ha : ∀ o, s.heap.get? a = some o → o.cls ≠ .type "tuple") :
    SrtO.SortableO prog w A s a vs fun v u => decide (TS.code B (TS.intsOf s.heap v) < TS.code B (TS.intsOf s.heap u)) := by
  intro h' keep
  have kk : ∀ b o, s.heap.get? b = some o → o.cls = .type "tuple" → h'.get? b = some o := fun b o e c => keep b o (fun z => by subst z; exact ha o e c) e
  have x' := x.keeps kk
  obtain ⟨fs, k, hl, hi⟩ := TS.firsts_of hd vs x'
  refine ⟨tuples' true, fun Q E hq => ?_, fun p q hp hq => ?_⟩
  · refine PySem.W.kat_kind (T := .type "int") k (by omega) (fun f hm => ?_) (by rfl) ?_
    · obtain ⟨n, t, rfl⟩ := hi f hm
      exact PySem.W.Looks.now
    · have e : (Value.type "int" != Value.type "tuple") = true := by first | decide +kernel | rfl | decide
      rw [e]
      exact hq
  · obtain ⟨ns, tp, lp, bp⟩ := x _ hp
    obtain ⟨ms, tq, lq, bq⟩ := x _ hq
    have ep := tp.ints
    have eq := tq.ints
    obtain ⟨b, xs, e1, ⟨o, ho, hc, n, hdt⟩, i⟩ := tp.keeps kk
    obtain ⟨b', ys, e2, ⟨o', ho', hc', n', hdt'⟩, i'⟩ := tq.keeps kk
    show wpAny (model prog w) A (keyLt' (tuples' true) p.1 q.1) (fun r s' => s' = { s with heap := h' } ∧ r = decide (TS.code B (TS.intsOf s.heap p.1) < TS.code B (TS.intsOf s.heap q.1))) (fun _ _ => False) { s with heap := h' }
    rw [ep, eq, e1, e2]
    refine PySem.W.kat_lt ho hdt ho' hdt' ?_
    have sz : decide (xs.size < ys.size) = false := by
      have l1 := i.length
      have l2 := i'.length
      rw [Array.length_toList] at l1 l2
      exact decide_eq_false (by omega)
    rw [sz]
    exact TS.lex_ints (Q := fun r s' => s' = { s with heap := h' } ∧ r = decide (TS.code B ns < TS.code B ms)) 0 i i' (by omega) bp bq ⟨rfl, rfl⟩
end
theorem keys_ints : ∀ {ns : List Int} {its : List Value}, Vals ((ns.map Sum.inl : List L2.Key).map kV) its → IntsAre its ns
  | [], _, .nil => .nil
  | n :: ns, _, .cons r t => by
    obtain ⟨tk, rfl⟩ := r
    exact .cons _ _ (keys_ints t)
def rSortDT : List V → Hp → VK → Prop := fun xs H Q => ∃ (m : Nat) (d : Addr) (kvs : List (List L2.Key × V)), xs = [V.ref d] ∧ Rd H d (.dT kvs) ∧ (1 ≤ m ∨ kvs.length ≤ 1) ∧ (∀ p ∈ kvs, ∃ ns : List Int, p.1 = ns.map Sum.inl ∧ ns.length = m ∧ TS.Bd 8 ns) ∧
  ∀ (p : Addr) (bs cs : List Addr), H p = none → IsKeys H kvs bs → cs.Perm bs → Q (.ref p) (upd H p (.lst (cs.map V.ref)))
def bkA : Value → Addr
  | .ref a => a
  | _ => 0
theorem bkA_refs (bs : List Addr) : (bs.map Value.ref).map bkA = bs := by
  rw [List.map_map]
  exact List.map_id' bs
theorem cr_sortDT {X : Cx} (hcalm : X.calm = true) : CallR X (.builtin "sorted") rSortDT := by
  intro pins s σ H xs us Q I r h
  obtain ⟨m, d, kvs, rfl, hd, hm, hk, q⟩ := h
  obtain ⟨u, rfl, rx⟩ := r.one
  cases rx
  obtain ⟨z, hs, ks, pr, o, es, ep, ho, hx, hdt, he, hn⟩ := (show ObjOk X.prog X.w H s.heap d (.dT kvs) from hd.ok I.hok)
  have l1 : es.size = ks.length := size_of_entries he
  have l2 : kvs.length = ks.length := Paired.length pr
  refine Calls.call_function_entry PyProof.Rows.kind_sorted PyProof.Rows.plain_sorted PyProof.Rows.entry_sorted (PyProof.Rows.args_sorted1 _) ?_
  unfold Builtin.«sorted»
  refine wpAny_bind (m := checkCount "sorted" 1 1 _) (wpAny_pure ?_)
  refine wpAny_bind (PySem.W.kdu_collect (A := X.A.in1) (kdl_raw hs hx hdt) (I.ok.hd hcalm) ho (by omega) fun h' tk acc kp it => ?_)
  have ea : acc.toList = (ks.map fun x => x.2.1).map Value.ref := by
    rw [List.map_map]
    have hl : acc.toList.length = ks.length := by rw [Array.length_toList, it.1]; exact l1
    apply List.ext_getElem?
    intro j
    rw [List.getElem?_map]
    cases hj : acc.toList[j]? with
    | none =>
      have h1 := List.getElem?_eq_none_iff.mp hj
      rw [List.getElem?_eq_none (by omega)]
      all_goals rfl
    | some v =>
      obtain ⟨en, hen, hv⟩ := it.2 j v (by rw [← Array.getElem?_toList]; exact hj)
      have qe := entry_at he j
      rw [hen] at qe
      cases hb : ks[j]? with
      | none =>
        rw [hb] at qe
        exact nomatch (show some en = none from qe)
      | some b =>
        rw [hb] at qe
        have e2 : en = entryOfKey (tupleKind (mixKind X.prog X.w)) b := Option.some.inj qe
        rw [hv, e2]
        all_goals rfl
  have ik := isKeys_of pr
  generalize (ks.map fun x => x.2.1) = bs at ea ik
  have lb : bs.length = kvs.length := ik.length.symm
  rw [ea]
  have hz : (bs.map Value.ref).length ≤ sizeLine := by rw [List.length_map]; omega
  have I1 : Inv X pins σ H { s with heap := h', toks := tk } := I.kept kp
  have tu : TS.TupsOk s.heap m 8 (bs.map Value.ref) := fun v hv => by
    obtain ⟨b, hb, rfl⟩ := List.mem_map.mp hv
    obtain ⟨j, hj⟩ := List.mem_iff_getElem?.mp hb
    obtain ⟨p, hp, hbt⟩ := L2.DX.pget ik hj
    obtain ⟨ns, e, ln, bd⟩ := hk p (List.mem_of_getElem? hp)
    rw [e] at hbt
    obtain ⟨_, its, rv, hT⟩ := (show ObjOk X.prog X.w H s.heap b (.tup ((ns.map Sum.inl).map kV)) from I.hok b _ hbt)
    exact ⟨ns, ⟨b, its.toArray, rfl, hT, keys_ints rv⟩, ln, bd⟩
  refine wpAny_bind (wpAny_newList ?_ hz)
  have hoL : (h'.push (seqObj "list" (bs.map Value.ref).toArray 0)).get? h'.objs.size = some (seqObj "list" (bs.map Value.ref).toArray 0) := Heap.get?_push_size _ rfl
  show wpAny _ _ _ _ _ { s with heap := h'.push (seqObj "list" (bs.map Value.ref).toArray 0), toks := tk }
  refine wpAny_bind (wpAny_holding (wpAny_call_entry PyProof.Rows.slot_list_sort ⟨_, hoL, rfl⟩ PyProof.Rows.entry_list_sort
    (SrtO.list_sort_ord (s := { s with heap := h'.push (seqObj "list" (bs.map Value.ref).toArray 0), toks := tk }) (swo_by fun v => TS.code 8 (TS.intsOf (h'.push (seqObj "list" (bs.map Value.ref).toArray 0)) v)) hoL hz (fun h2 => ?_) fun out h1 h2 => ⟨_, rfl, ?_⟩) (PyProof.Rows.args_list_sort _)))
  · refine tups_sortable (d := m) (B := 8) (s := { s with heap := h'.push (seqObj "list" (bs.map Value.ref).toArray 0), toks := tk }) ?_ h2 (tu.keeps fun b o e _ => Heap.get?_push_of_some _ (kp b o e)) fun o e c => ?_
    · rw [List.length_map] at h2
      omega
    · have e' : some o = some (seqObj "list" (bs.map Value.ref).toArray 0) := e.symm.trans hoL
      cases e'
      exact absurd (Value.type.inj c) (by decide)
  · obtain ⟨e', he'⟩ := PyProof.Rows.sortedHeap_at (vs := bs.map Value.ref) (out := out.toArray) hoL
    have pm : (out.map bkA).Perm bs := by
      have := h2.perm.map bkA
      rw [bkA_refs] at this
      exact this
    have eo : out = (out.map bkA).map Value.ref := by
      rw [List.map_map]
      conv => lhs; rw [← List.map_id out]
      refine List.map_congr_left fun v hv => ?_
      obtain ⟨b, _, rfl⟩ := List.mem_map.mp (h2.perm.mem_iff.mp hv)
      rfl
    have hlen : ((out.map bkA).map V.ref).length ≤ sizeLine := by
      rw [List.length_map, pm.length_eq, lb]
      exact z
    have rvO : Vals ((out.map bkA).map V.ref) out := by
      conv => rhs; rw [eo]
      exact vals_refs _
    refine wpAny_pure ⟨_, rfl, .ref h'.objs.size, upd H h'.objs.size (.lst ((out.map bkA).map V.ref)), I1.laid (t' := tk) (fun b u e => ?_) (Nat.le_refl _)
      (show ObjOk X.prog X.w _ _ _ (.lst ((out.map bkA).map V.ref)) from ⟨hlen, out, e', rvO, he'⟩), rfl, q _ _ _ (I1.hok.fresh (Nat.le_refl _)) ik pm⟩
    have hb : b < h'.objs.size := Heap.lt_size e
    rw [PyProof.Rows.sortedHeap_old (Nat.ne_of_lt hb) (by rw [size_push']; exact Nat.lt_succ_of_lt hb)]
    exact Heap.get?_push_of_some _ e
/-! {k: v}, k a tuple -/
def tDisp1T (trs : List (TE × TE)) : TE := fun σ H Q => ∀ p, H p = none → tPairs trs σ (upd H p (.dT [])) fun ps H2 => H2 p = some (.dT []) ∧ ∃ (k : List L2.Key) (b : Addr) (y : V), ps = [(V.ref b, y)] ∧ H2 b = some (.tup (k.map kV)) ∧ Q (.ref p) (upd H2 p (.dT [(k, y)]))
theorem pe_disp1T {X : Cx} {pos : Pos} {keys : List (Option Expr)} {values : List Expr} {trs : List (TE × TE)} (hu : X.A.units + 1 < cLine) (h : PPs X pos keys values trs) (hall : keys.all (·.isSome) = true) (hl : keys.length = values.length) (h0 : keys ≠ [])
    (h15 : keys.length ≤ 15) : PE X (.Dict keys values pos) (tDisp1T trs) := by
  refine ⟨fun pins s σ H Q I q => ?_⟩
  have hn := I.hok.fresh (Nat.le_refl s.heap.objs.size)
  have I1 := I.laid (a := s.heap.objs.size) (o := .dT []) (h' := s.heap.push { cls := .type "dict", data := .dict #[] }) (t' := s.toks) (fun _ _ q => Heap.get?_push_of_some _ q) (Nat.le_refl _) (dt_empty s.heap I.big)
  have hnl := pairTrees_length keys values X.env pos hall hl
  have ne : pairTrees keys values X.env pos ≠ [] := fun e => by
    rw [e] at hnl
    exact h0 (List.length_eq_zero_iff.mp hnl.symm)
  rw [arm_eval_Dict, zip_pairTrees keys values X.env pos hall hl, dictDisplay_pairs _ ne (by omega)]
  refine wpAny_bind (wpAny_standAt (wpAny_bind (wpAny_subDictH (knd := tupleKind (mixKind X.prog X.w)) (by show X.A.units < cLine; omega) (by omega) (thn (h.run pins _ σ _ _ I1 (q _ hn)) fun ws s2 ⟨ps, H2, I2, rel, e, k, b, y, ep, hb, q2⟩ => ?_))))
  subst ep
  obtain ⟨kv, yv, ew, ra, rb⟩ : ∃ kv yv, ws = [(kv, yv)] ∧ RelV (.ref b) kv ∧ RelV y yv := by
    cases rel with
    | @cons p q ps qs r1 r2 =>
      cases r2
      exact ⟨q.1, q.2, rfl, r1.1, r1.2⟩
  subst ew
  cases (show kv = Value.ref b from ra)
  obtain ⟨z, hd, xs, r0, dd⟩ := dt_of I2.hok e
  cases r0
  refine ⟨[(k, b, yv)], ⟨rfl, rfl, key_of I2.hok hb, trivial⟩, dd, fun h' tk dd' hs => wpAny_pure ⟨.ref s.heap.objs.size, _, ?_, rfl, q2⟩⟩
  obtain ⟨q, es, ep, hq, h2, h3, h4, _, h5⟩ := dd'
  refine d_write I2 (by rw [e]; exact True.intro) hs ⟨q, hq⟩ ⟨?_, hd, _, .cons ⟨rfl, ?_, rb⟩ .nil, q, es, ep, hq, h2, h3, h4, h5⟩
  · show 1 ≤ sizeLine
    decide
  · show upd H2 _ _ b = _
    rw [upd_ne (ne_of hb e (fun z => nomatch z))]
    exact hb
/-! sorted(t), t a tuple of ints -/
section
variable {prog : Program} {w : World} {A : Around} {E : Value → Shared → Prop} {s : Shared}
theorem collect_tupI {l : Addr} {vs : List Value} {R : List Value → Shared → Prop} (hl : IsTup s.heap l vs.toArray) (hz : vs.length ≤ sizeLine)
    (k : ∀ h', (∀ b o, s.heap.get? b = some o → h'.get? b = some o) → R vs { s with heap := h' }) : wpAny (model prog w) A (collect (.ref l)) R E s := by
  obtain ⟨o, ho, hc, n, hd⟩ := id hl
  unfold collect
  refine wpAny_bind (wpAny_runValue (codeAny_builtin entry_proto_collect' ?_))
  refine wpAny_bind (wpAny_newList (wpAny_pure ⟨Code.quiet_builtin _ (by decide +kernel), codeAny_builtin entry_list_iadd' ?_⟩))
  have hN : (s.heap.push (seqObj "list" #[] 0)).get? s.heap.objs.size = some (seqObj "list" #[] 0) := Heap.get?_push_size _ rfl
  have ho' := Heap.get?_push_of_some (seqObj "list" #[] 0) ho
  show wpAny _ _ (Builtin.List.listExtendWith (.ref s.heap.objs.size) (.ref l) (.ref s.heap.objs.size)) _ _ { s with heap := s.heap.push (seqObj "list" #[] 0) }
  unfold Builtin.List.listExtendWith
  refine wpAny_bind (wpAny_typeOf (T := "tuple") ⟨o, ho', hc⟩ ?_)
  have ht : (Value.type "tuple" == Value.type "tuple") = true := by rfl
  rw [if_pos (by rw [ht]; simp)]
  refine wpAny_bind (listItems_at ho' hd ?_)
  refine wpAny_bind (listItems_at (xs := #[]) (n := 0) hN rfl ?_)
  rw [if_neg (by simp)]
  refine wpAny_bind (listUpdate_at (xs := #[]) (n := 0) hN rfl ?_ (Nat.zero_le _) (by show (#[] ++ vs.toArray).size ≤ sizeLine + 1; simp only [Array.size_append, List.size_toArray, List.length_nil]; omega))
  refine wpAny_pure ?_
  have hU := get?_update_seq (g := (· ++ vs.toArray)) hN
  have keep : ∀ b ob, s.heap.get? b = some ob → ((s.heap.push (seqObj "list" #[] 0)).update s.heap.objs.size (Obj.mapSeq (· ++ vs.toArray))).get? b = some ob := fun b ob q => by
    rw [Heap.get?_update_ne _ _ _ _ (Nat.ne_of_lt (Heap.lt_size q))]
    exact Heap.get?_push_of_some _ q
  show wpAny (model prog w) A (load s.heap.objs.size >>= _) R E _
  refine wpAny_bind (wpAny_load hU ?_)
  show wpAny _ _ (pure ((#[] : Array Value) ++ vs.toArray).toList) R E _
  have ev : ((#[] : Array Value) ++ vs.toArray).toList = vs := by simp
  rw [ev]
  exact wpAny_pure (k _ keep)
end
def rSortedTI (K : PySem.W.Frag) : List V → Hp → VK → Prop := fun vs H Q => ∃ (a : Addr) (ns : List Int), vs = [V.ref a] ∧ SqT K H a (ns.map V.int) ∧
  ∀ (ms : List Int) (p : Addr), ms.Perm ns → ms.Pairwise (· ≤ ·) → H p = none → Q (.ref p) (upd H p (.lst (ms.map V.int)))
theorem cr_sortedTI {X : Cx} : CallR X (.builtin "sorted") (rSortedTI X.K) := by
  intro pins s σ H vs us Q I r h
  obtain ⟨a, ns, rfl, hs, q⟩ := h
  obtain ⟨its, rv, hT, hz⟩ := I.tuple hs
  rw [Vals.ref1 r]
  have hi := rv.ints
  have hz' : its.length ≤ sizeLine := by rw [← rv.length]; exact hz
  refine Calls.call_function_entry PyProof.Rows.kind_sorted PyProof.Rows.plain_sorted PyProof.Rows.entry_sorted (PyProof.Rows.args_sorted1 _) ?_
  unfold Builtin.«sorted»
  refine wpAny_bind (m := checkCount "sorted" 1 1 _) (wpAny_pure ?_)
  refine wpAny_bind (collect_tupI hT hz' fun h' kp => ?_)
  have I1 : Inv X pins σ H { s with heap := h' } := I.kept (t' := s.toks) kp
  refine wpAny_bind (wpAny_newList ?_ hz')
  have hoL : (h'.push (seqObj "list" its.toArray 0)).get? h'.objs.size = some (seqObj "list" its.toArray 0) := Heap.get?_push_size _ rfl
  show wpAny _ _ _ _ _ { s with heap := h'.push (seqObj "list" its.toArray 0) }
  refine wpAny_bind (wpAny_holding (wpAny_call_entry PyProof.Rows.slot_list_sort ⟨_, hoL, rfl⟩ PyProof.Rows.entry_list_sort
    (SrtO.list_sort_ord (s := { s with heap := h'.push (seqObj "list" its.toArray 0) }) SrtO.swo_int hoL hz' (fun h2 => SrtO.ints_sortable hi h2) fun out h1 h2 => ⟨_, rfl, ?_⟩) (PyProof.Rows.args_list_sort _)))
  obtain ⟨k1, k2, k3⟩ := SrtO.ints_out hi h1 h2
  obtain ⟨ep, he'⟩ := PyProof.Rows.sortedHeap_at (vs := its) (out := out.toArray) hoL
  have hlen : ((out.map SrtO.iv).map V.int).length ≤ sizeLine := by
    rw [List.length_map, k2.length_eq]
    rw [List.length_map] at hz
    exact hz
  refine wpAny_pure ⟨_, rfl, .ref h'.objs.size, upd H h'.objs.size (.lst ((out.map SrtO.iv).map V.int)), I1.laid (t' := s.toks) (fun b u e => ?_) (Nat.le_refl _) (show ObjOk X.prog X.w _ _ _ (.lst ((out.map SrtO.iv).map V.int)) from ⟨hlen, out, ep, vals_of_ints k1, he'⟩), rfl, q _ _ k2 k3 (I1.hok.fresh (Nat.le_refl _))⟩
  have hb : b < h'.objs.size := Heap.lt_size e
  rw [PyProof.Rows.sortedHeap_old (Nat.ne_of_lt hb) (by rw [size_push']; exact Nat.lt_succ_of_lt hb)]
  exact Heap.get?_push_of_some _ e
end Jf
set_option Elab.async false
set_option linter.all false
set_option maxRecDepth 100000
set_option maxHeartbeats 4000000
namespace Jf
open PySem PySem.Spec PyProof.Rows L2 Evl
namespace So
open PySem.W (keyToks keyToksAll)
/-! data of numbers, texts and tuples of these -/
mutual
def td : PyData → Bool
  | .none => true
  | .int _ => true
  | .str _ => true
  | .tuple xs => tdA xs
  | _ => false
def tdA : List PyData → Bool
  | [] => true
  | x :: xs => td x && tdA xs
end
/-! the one may be asked whether it is less than the other: as far as both agree, and where they differ first, both are of a kind -/
mutual
def cmp : PyData → PyData → Bool
  | .none, .none => true
  | .int _, .int _ => true
  | .str _, .str _ => true
  | .tuple xs, .tuple ys => cmpA xs ys
  | _, _ => false
def cmpA : List PyData → List PyData → Bool
  | x :: xs, y :: ys => cmp x y && (!PyData.eqv x y || cmpA xs ys)
  | [], _ => true
  | _ :: _, [] => true
end
abbrev lx : List (Int ⊕ List Nat) → List (Int ⊕ List Nat) → Bool := PyProof.Rows.lexLt itemOrd
def dlt (x y : PyData) : Bool := lx (keyToks x) (keyToks y)
theorem cmpA_cons {x y : PyData} {xs ys : List PyData} (h : cmpA (x :: xs) (y :: ys) = true) : cmp x y = true ∧ (PyData.eqv x y = true → cmpA xs ys = true) := by
  rw [cmpA, Bool.and_eq_true, Bool.or_eq_true] at h
  refine ⟨h.1, fun e => ?_⟩
  rw [e] at h
  exact h.2.resolve_left (by simp)
theorem eqA_cons (x y : PyData) (xs ys : List PyData) : PyData.eqvAll (x :: xs) (y :: ys) = (PyData.eqv x y && PyData.eqvAll xs ys) := by rw [PyData.eqvAll]
theorem tkA_cons (x : PyData) (xs : List PyData) : keyToksAll (x :: xs) = Sum.inl 1 :: (keyToks x ++ keyToksAll xs) := by rw [keyToksAll]
theorem tkA_nil : keyToksAll [] = [Sum.inl 0] := by rw [keyToksAll]
theorem lx_one {p q : Int ⊕ List Nat} (ne : p ≠ q) (l m : List (Int ⊕ List Nat)) : lx (p :: l) (q :: m) = lx [p] [q] := PySem.W.lex_atom ne l m
theorem lx_same (p : Int ⊕ List Nat) (l m : List (Int ⊕ List Nat)) : lx (p :: l) (p :: m) = lx l m := PyProof.Rows.lex_self (O := itemOrd) p l m
theorem lx_front (p l m : List (Int ⊕ List Nat)) : lx (p ++ l) (p ++ m) = lx l m := PySem.W.lex_pre p l m
mutual
theorem tk_eqv : ∀ (x y : PyData), cmp x y = true → (PyData.eqv x y = true → x = y) ∧ (PyData.eqv x y = false → ∀ l m, lx (keyToks x ++ l) (keyToks y ++ m) = dlt x y)
  | .none, y, h => by
    cases y with
    | none => exact ⟨fun _ => rfl, fun e => absurd e (by simp [PyData.eqv])⟩
    | _ => exact absurd h (by simp [cmp])
  | .bool _, y, h => by cases y <;> exact absurd h (by simp [cmp])
  | .list _, y, h => by cases y <;> exact absurd h (by simp [cmp])
  | .dict _, y, h => by cases y <;> exact absurd h (by simp [cmp])
  | .int a, y, h => by
    cases y with
    | int b =>
      refine ⟨fun e => by rw [show a = b by simpa [PyData.eqv] using e], fun e l m => ?_⟩
      have ne : a ≠ b := fun q => by rw [q] at e; simp [PyData.eqv] at e
      unfold dlt
      simp only [keyToks]
      exact lx_one (fun q => ne (Sum.inl.inj q)) l m
    | _ => exact absurd h (by simp [cmp])
  | .str a, y, h => by
    cases y with
    | str b =>
      refine ⟨fun e => by rw [show a = b by simpa [PyData.eqv] using e], fun e l m => ?_⟩
      have ne : a ≠ b := fun q => by rw [q] at e; simp [PyData.eqv] at e
      unfold dlt
      simp only [keyToks]
      exact lx_one (fun q => ne (PySem.W.str_of_cps (Sum.inr.inj q))) l m
    | _ => exact absurd h (by simp [cmp])
  | .tuple xs, y, h => by
    cases y with
    | tuple ys =>
      obtain ⟨t1, t2⟩ := tkA_eqv xs ys (by simpa [cmp] using h)
      unfold dlt
      simp only [keyToks, PyData.eqv]
      exact ⟨fun e => by rw [t1 e], t2⟩
    | _ => exact absurd h (by simp [cmp])
theorem tkA_eqv : ∀ (xs ys : List PyData), cmpA xs ys = true → (PyData.eqvAll xs ys = true → xs = ys) ∧ (PyData.eqvAll xs ys = false → ∀ l m, lx (keyToksAll xs ++ l) (keyToksAll ys ++ m) = lx (keyToksAll xs) (keyToksAll ys))
  | [], [], _ => ⟨fun _ => rfl, fun e => absurd e (by simp [PyData.eqvAll])⟩
  | [], y :: ys, _ => ⟨fun e => absurd e (by simp [PyData.eqvAll]), fun _ l m => by
      rw [tkA_nil, tkA_cons]
      exact (lx_one (by simp) _ _).trans (lx_one (by simp) _ _).symm⟩
  | x :: xs, [], _ => ⟨fun e => absurd e (by simp [PyData.eqvAll]), fun _ l m => by
      rw [tkA_nil, tkA_cons]
      exact (lx_one (by simp) _ _).trans (lx_one (by simp) _ _).symm⟩
  | x :: xs, y :: ys, h => by
    obtain ⟨c1, c2⟩ := cmpA_cons h
    obtain ⟨a1, a2⟩ := tk_eqv x y c1
    rw [eqA_cons, tkA_cons, tkA_cons]
    cases hx : PyData.eqv x y with
    | true =>
      obtain ⟨b1, b2⟩ := tkA_eqv xs ys (c2 hx)
      cases a1 hx
      rw [Bool.true_and]
      refine ⟨fun e => by rw [b1 e], fun e l m => ?_⟩
      rw [List.cons_append, List.cons_append, List.append_assoc, List.append_assoc, lx_same, lx_same, lx_front, lx_front]
      exact b2 e l m
    | false =>
      rw [Bool.false_and]
      refine ⟨fun e => absurd e Bool.false_ne_true, fun _ l m => ?_⟩
      rw [List.cons_append, List.cons_append, List.append_assoc, List.append_assoc, lx_same, lx_same]
      exact (a2 hx _ _).trans (a2 hx _ _).symm
end
theorem lxA_yes {x y : PyData} {xs ys : List PyData} (h : cmp x y = true) (e : PyData.eqv x y = true) : lx (keyToksAll (x :: xs)) (keyToksAll (y :: ys)) = lx (keyToksAll xs) (keyToksAll ys) := by
  cases (tk_eqv x y h).1 e
  rw [tkA_cons, tkA_cons, lx_same, lx_front]
theorem lxA_no {x y : PyData} {xs ys : List PyData} (h : cmp x y = true) (e : PyData.eqv x y = false) : lx (keyToksAll (x :: xs)) (keyToksAll (y :: ys)) = dlt x y := by
  rw [tkA_cons, tkA_cons, lx_same]
  exact (tk_eqv x y h).2 e _ _
theorem dlt_tup (xs ys : List PyData) : dlt (.tuple xs) (.tuple ys) = lx (keyToksAll xs) (keyToksAll ys) := by
  unfold dlt
  simp only [keyToks]
theorem dlt_int (a b : Int) : dlt (.int a) (.int b) = decide (a < b) := by
  have h : dlt (.int a) (.int b) = PySem.W.dataLt (.int a) (.int b) := rfl
  rw [h, PySem.W.dataLt_int]
theorem dlt_str (a b : Str) : dlt (.str a) (.str b) = decide (a.cps.toList < b.cps.toList) := by
  have h : dlt (.str a) (.str b) = PySem.W.dataLt (.str a) (.str b) := rfl
  rw [h, PySem.W.dataLt_str]
/-- a strict weak order -/
theorem swo_dlt (f : Value → PyData) : SrtO.Swo fun v u => dlt (f v) (f u) := by
  refine ⟨fun x y h => ?_, fun x y z h1 h2 => ?_⟩
  · show dlt (f y) (f x) = false
    cases e : dlt (f y) (f x) with
    | false => rfl
    | true =>
      have := PyProof.Rows.lex_trans (O := itemOrd) _ _ _ h e
      rw [PyProof.Rows.lex_irrefl] at this
      exact this.symm
  · show dlt (f z) (f x) = false
    cases e : dlt (f z) (f x) with
    | false => rfl
    | true =>
      rcases PyProof.Rows.lex_negTrans (O := itemOrd) _ (keyToks (f y)) _ e with q | q
      · exact q.symm.trans h2
      · exact q.symm.trans h1
/-- neither is less: they are the same -/
theorem same_of {x y : PyData} (h : cmp x y = true) (h1 : dlt x y = false) (h2 : dlt y x = false) : PyData.eqv x y = true ∨ keyToks x = keyToks y := .inr (PyProof.Rows.lex_total (O := itemOrd) _ _ h1 h2)
/-! a row of signs tells the datum, of one kind -/
mutual
theorem tk_inj : ∀ (x y : PyData), cmp x y = true → ∀ l m, keyToks x ++ l = keyToks y ++ m → x = y ∧ l = m
  | .none, y, h => fun l m e => by
    cases y with
    | none =>
      simp only [keyToks, List.nil_append] at e
      exact ⟨rfl, e⟩
    | _ => exact absurd h (by simp [cmp])
  | .bool _, y, h => by cases y <;> exact absurd h (by simp [cmp])
  | .list _, y, h => by cases y <;> exact absurd h (by simp [cmp])
  | .dict _, y, h => by cases y <;> exact absurd h (by simp [cmp])
  | .int a, y, h => fun l m e => by
    cases y with
    | int b =>
      simp only [keyToks, List.cons_append, List.nil_append] at e
      obtain ⟨e1, e2⟩ := List.cons.inj e
      exact ⟨by rw [Sum.inl.inj e1], e2⟩
    | _ => exact absurd h (by simp [cmp])
  | .str a, y, h => fun l m e => by
    cases y with
    | str b =>
      simp only [keyToks, List.cons_append, List.nil_append] at e
      obtain ⟨e1, e2⟩ := List.cons.inj e
      exact ⟨by rw [PySem.W.str_of_cps (Sum.inr.inj e1)], e2⟩
    | _ => exact absurd h (by simp [cmp])
  | .tuple xs, y, h => fun l m e => by
    cases y with
    | tuple ys =>
      simp only [keyToks] at e
      obtain ⟨e1, e2⟩ := tkA_inj xs ys (by simpa [cmp] using h) l m e
      exact ⟨by rw [e1], e2⟩
    | _ => exact absurd h (by simp [cmp])
theorem tkA_inj : ∀ (xs ys : List PyData), cmpA xs ys = true → ∀ l m, keyToksAll xs ++ l = keyToksAll ys ++ m → xs = ys ∧ l = m
  | [], [], _ => fun l m e => by
    rw [tkA_nil] at e
    exact ⟨rfl, (List.cons.inj e).2⟩
  | [], y :: ys, _ => fun l m e => by
    rw [tkA_nil, tkA_cons] at e
    exact absurd (Sum.inl.inj (List.cons.inj e).1) (by decide)
  | x :: xs, [], _ => fun l m e => by
    rw [tkA_nil, tkA_cons] at e
    exact absurd (Sum.inl.inj (List.cons.inj e).1) (by decide)
  | x :: xs, y :: ys, h => fun l m e => by
    obtain ⟨c1, c2⟩ := cmpA_cons h
    rw [tkA_cons, tkA_cons, List.cons_append, List.cons_append, List.append_assoc, List.append_assoc] at e
    obtain ⟨e1, e2⟩ := tk_inj x y c1 _ _ (List.cons.inj e).2
    subst e1
    cases hx : PyData.eqv x x with
    | true =>
      obtain ⟨e3, e4⟩ := tkA_inj xs ys (c2 hx) _ _ e2
      exact ⟨by rw [e3], e4⟩
    | false =>
      have := (tk_eqv x x c1).2 hx [] [Sum.inl 0]
      have q := (tk_eqv x x c1).2 hx [Sum.inl 0] []
      rw [List.append_nil] at this q
      rw [← this] at q
      have a1 : lx (keyToks x ++ [Sum.inl 0]) (keyToks x) = false := by
        have z := lx_front (keyToks x) [Sum.inl 0] []
        rw [List.append_nil] at z
        rw [z]
        rfl
      have a2 : lx (keyToks x) (keyToks x ++ [Sum.inl 0]) = true := by
        have z := lx_front (keyToks x) [] [Sum.inl 0]
        rw [List.append_nil] at z
        rw [z]
        rfl
      rw [a1, a2] at q
      exact absurd q (by simp)
end
theorem eq_of {x y : PyData} (h : cmp x y = true) (h1 : dlt x y = false) (h2 : dlt y x = false) : x = y := by
  have e : keyToks x = keyToks y := PyProof.Rows.lex_total (O := itemOrd) _ _ h1 h2
  refine (tk_inj x y h [] [] ?_).1
  rw [List.append_nil, List.append_nil]
  exact e
/-! sorted rows of the same data are the same row -/
abbrev Sd (l : List PyData) : Prop := l.Pairwise fun x y => dlt y x = false
abbrev CmA (l : List PyData) : Prop := ∀ x ∈ l, ∀ y ∈ l, cmp x y = true
theorem sd_uniq : ∀ {a b : List PyData}, a.Perm b → CmA a → Sd a → Sd b → a = b
  | [], b, p, _, _, _ => (List.nil_perm.mp p).symm
  | x :: a, [], p, _, _, _ => absurd p.length_eq (by simp)
  | x :: a, y :: b, p, c, s1, s2 => by
    have mx : x ∈ y :: b := p.mem_iff.mp List.mem_cons_self
    have my : y ∈ x :: a := p.mem_iff.mpr List.mem_cons_self
    have exy : x = y := by
      rcases List.mem_cons.mp mx with e | mx
      · exact e
      · rcases List.mem_cons.mp my with e | my
        · exact e.symm
        · exact eq_of (c x List.mem_cons_self y (List.mem_cons_of_mem _ my)) ((List.pairwise_cons.mp s2).1 x mx) ((List.pairwise_cons.mp s1).1 y my)
    subst exy
    rw [sd_uniq (List.perm_cons _ |>.mp p) (fun u hu v hv => c u (List.mem_cons_of_mem _ hu) v (List.mem_cons_of_mem _ hv)) (List.pairwise_cons.mp s1).2 (List.pairwise_cons.mp s2).2]
def srt (l : List PyData) : List PyData := l.mergeSort fun x y => !dlt y x
theorem srt_perm (l : List PyData) : (srt l).Perm l := List.mergeSort_perm _ _
theorem srt_sd (l : List PyData) : Sd (srt l) := by
  have h := List.pairwise_mergeSort (le := fun x y => !dlt y x) (fun a b c h1 h2 => ?_) (fun a b => ?_) l
  · exact h.imp fun {x y} q => by simpa using q
  · have o := swo_dlt (fun v => match v with | .int 0 _ => a | .int 1 _ => b | _ => c)
    have := o.tr (.int 0 default) (.int 1 default) .none (by simpa using h1) (by simpa using h2)
    simpa using this
  · have o := swo_dlt (fun v => match v with | .int 0 _ => a | _ => b)
    cases e : dlt b a with
    | false => simp
    | true =>
      have := o.asym .none (.int 0 default) e
      simpa using this
theorem srt_of {l m : List PyData} (p : m.Perm l) (s : Sd m) (c : CmA l) : m = srt l :=
  sd_uniq (p.trans (srt_perm l).symm) (fun x hx y hy => c x (p.mem_iff.mp hx) y (p.mem_iff.mp hy)) s (srt_sd l)
/-! what values read as -/
mutual
theorem rd_one {h : Heap} : ∀ (d d' : PyData) (v : Value) (as bs : List Addr), td d = true → Reads h v d as → Reads h v d' bs → d = d'
  | .none, _, _, _, _, t, r, r' => by
    cases r
    cases r'
    rfl
  | .bool _, _, _, _, _, t, _, _ => absurd t (by simp [td])
  | .list _, _, _, _, _, t, _, _ => absurd t (by simp [td])
  | .dict _, _, _, _, _, t, _, _ => absurd t (by simp [td])
  | .int n, d', v, _, _, _, r, r' => by
    cases r
    cases r'
    rfl
  | .str n, d', v, _, _, _, r, r' => by
    cases r
    cases r'
    rfl
  | .tuple xs, d', v, as, bs, t, r, r' => by
    cases r with
    | tuple h1 h2 h3 h4 =>
      cases r' with
      | tuple k1 k2 k3 k4 =>
        cases h1.symm.trans k1
        cases h3.symm.trans k3
        rw [rdA_one _ _ _ _ _ (by simpa [td] using t) h4 k4]
      | list k1 k2 k3 k4 =>
        cases h1.symm.trans k1
        exact absurd (Value.type.inj (h2.symm.trans k2)) (by decide)
      | dict k1 k2 k3 k4 k5 =>
        cases h1.symm.trans k1
        exact absurd (Value.type.inj (h2.symm.trans k2)) (by decide)
theorem rdA_one {h : Heap} : ∀ (ds es : List PyData) (vs : List Value) (as bs : List Addr), tdA ds = true → ReadsAll h vs ds as → ReadsAll h vs es bs → ds = es
  | [], es, vs, _, _, _, r, r' => by
    cases r
    cases r'
    rfl
  | d :: ds, es, vs, _, _, t, r, r' => by
    have t' : td d = true ∧ tdA ds = true := by simpa [tdA] using t
    cases r with
    | cons r1 r2 =>
      cases r' with
      | cons q1 q2 => rw [rd_one _ _ _ _ _ t'.1 r1 q1, rdA_one _ _ _ _ _ t'.2 r2 q2]
end
mutual
theorem rd_keep {h h' : Heap} (kk : ∀ b o, h.get? b = some o → o.cls = .type "tuple" → h'.get? b = some o) : ∀ (d : PyData) (v : Value) (as : List Addr), td d = true → Reads h v d as → Reads h' v d as
  | .none, _, _, t, r => by
    cases r
    exact .none
  | .bool _, _, _, t, _ => absurd t (by simp [td])
  | .list _, _, _, t, _ => absurd t (by simp [td])
  | .dict _, _, _, t, _ => absurd t (by simp [td])
  | .int n, v, _, _, r => by
    cases r
    exact .int _ _
  | .str n, v, _, _, r => by
    cases r
    exact .str _ _
  | .tuple xs, v, as, t, r => by
    cases r with
    | tuple h1 h2 h3 h4 => exact .tuple (kk _ _ h1 h2) h2 h3 (rdA_keep kk _ _ _ (by simpa [td] using t) h4)
theorem rdA_keep {h h' : Heap} (kk : ∀ b o, h.get? b = some o → o.cls = .type "tuple" → h'.get? b = some o) : ∀ (ds : List PyData) (vs : List Value) (as : List Addr), tdA ds = true → ReadsAll h vs ds as → ReadsAll h' vs ds as
  | [], vs, _, _, r => by
    cases r
    exact .nil
  | d :: ds, vs, _, t, r => by
    have t' : td d = true ∧ tdA ds = true := by simpa [tdA] using t
    cases r with
    | cons r1 r2 => exact .cons (rd_keep kk _ _ _ t'.1 r1) (rdA_keep kk _ _ _ t'.2 r2)
end
/-- the datum that a value reads as -/
noncomputable def dOf (h : Heap) (v : Value) : PyData := open Classical in if q : ∃ d as, td d = true ∧ Reads h v d as then q.choose else .none
theorem none_eqv {x y : PyData} (h : cmp x y = true) (e : PyData.eqv x y = false) : x ≠ .none := by
  rintro rfl
  cases y with
  | none => exact absurd e (by simp [PyData.eqv])
  | _ => exact absurd h (by simp [cmp])
theorem dOf_eq {h : Heap} {v : Value} {d : PyData} {as : List Addr} (t : td d = true) (r : Reads h v d as) : dOf h v = d := by
  have q : ∃ d as, td d = true ∧ Reads h v d as := ⟨d, as, t, r⟩
  have e : dOf h v = q.choose := by
    unfold dOf
    rw [dif_pos q]
  obtain ⟨bs, h1, h2⟩ := q.choose_spec
  rw [e]
  exact (rd_one _ _ _ _ _ t r h2).symm
/-! which tuple is less: the first place that differs -/
def Fst (A : Around) (s : Shared) : List Value → List Value → Bool → Prop
  | x :: xs, y :: ys, k => ∃ e, SeqAt.EqAt A s x y e ∧ (e = true → Fst A s xs ys k) ∧ (e = false → SeqAt.RcLt A s x y k)
  | [], ys, k => k = decide (0 < ys.length)
  | _ :: _, [], k => k = false
section
open PySem.SeqAt
open PySem.AutoSeq1 (wpAny_loadPart')
open PySem.MeetsSeq PySem.MeetsSeq2 PySem.MeetsSeq3
theorem lt_first (l b : Addr) (u v : Array Value) (n n2 : Nat) (dd dd2 : Option Addr) (sl sl2 : Array (Option Value)) (k : Bool) :
    Meets (Builtin.«tuple.__lt__» ⟨[.ref l, .ref b], []⟩)
      (fun A R s => s.heap.get? l = some { cls := .type "tuple", dict := dd, data := .seq u n, slots := sl } ∧ s.heap.get? b = some { cls := .type "tuple", dict := dd2, data := .seq v n2, slots := sl2 } ∧
        Fst A.in1 s u.toList v.toList k ∧ R (.ok (.ret (.bool k))) s) :=
  .of_wp fun prog w A R s h => by
    obtain ⟨hp, g, d, tk, os⟩ := s
    obtain ⟨hl, hb, hf, h⟩ := h
    have f2 := AutoSeq1.sub_tuple_tuple
    wp_walk using wpAny_loadPart' hl, wpAny_loadPart' hb, wpAny_forIn_list _ (fun rest b s' => b.1 = none ∧ s' = ⟨hp, g, d, tk, os⟩ ∧ ∃ us vs, rest = List.zip us vs ∧ decide (us.length < vs.length) = decide (u.size < v.size) ∧ Fst A.in1 ⟨hp, g, d, tk, os⟩ us vs k) _
    case turn =>
      rintro ⟨y, x⟩ rest b s' ⟨hb', rfl, us, vs, hz, hs, hg⟩
      cases us with
      | nil => exact nomatch hz
      | cons p us =>
        cases vs with
        | nil => exact nomatch hz
        | cons q vs =>
          rw [List.zip_cons_cons] at hz
          obtain ⟨h1, h2⟩ := List.cons.inj hz
          obtain ⟨h3, h4⟩ := Prod.mk.inj h1
          subst h3 h4 h2
          obtain ⟨e, he, g1, g2⟩ := hg
          refine wpAny_bind (he prog w _ _ ?_)
          cases e with
          | true =>
            wp_walk
            exact ⟨rfl, rfl, us, vs, rfl, by rw [← hs, List.length_cons, List.length_cons]; exact decide_eq_decide.mpr (by omega), g1 rfl⟩
          | false =>
            have hri := g2 rfl prog w
            wp_walk using hri
            exact ⟨_, rfl, h⟩
    case fin =>
      rintro ⟨b1, b2⟩ s' ⟨hb', rfl, us, vs, hz, hs, hg⟩
      simp only at hb'
      subst hb'
      have ek : k = decide (u.size < v.size) := by
        rw [← hs]
        cases us with
        | nil => exact hg
        | cons p us =>
          cases vs with
          | nil => exact hg.trans (decide_eq_false (Nat.not_lt_zero _)).symm
          | cons q vs => exact nomatch hz
      rw [ek] at h
      wp_walk
      exact ⟨_, rfl, by simpa [Builtin.Tuple.tupleCompareSizes] using h⟩
    case h =>
      exact ⟨rfl, rfl, u.toList, v.toList, rfl, by simp, hf⟩
theorem rc_first {A : Around} {s : Shared} {l b : Addr} {u v : Array Value} {k : Bool} (hl : s.heap.IsTuple l u) (hb : s.heap.IsTuple b v) (hu : A.units < cLine) (hf : Fst A.in1 s u.toList v.toList k) : RcLt A s (.ref l) (.ref b) k := fun prog w E Q h => by
  obtain ⟨⟨c1, d1, t1, s1⟩, ho, hc, n, hd⟩ := id hl
  obtain ⟨⟨c2, d2, t2, s2⟩, ho2, hc2, n2, hd2⟩ := id hb
  simp only at hc hd hc2 hd2
  subst hc hd hc2 hd2
  exact richCompare_meets_room (op := .Lt) ⟨_, ho, rfl⟩ ⟨_, ho2, rfl⟩ PySem.F.slot_tuple_lt PySem.F.entry_tuple_lt (PySem.F.args_tuple_lt_2 _ _) (lt_first l b u v n n2 d1 d2 s1 s2 k)
    ⟨ho, ho2, hf, show Value.bool k ≠ Value.notImplemented ∧ Q (.bool k) s from ⟨(fun z => nomatch z), h⟩⟩ hu
end
theorem units_in1 {A : Around} {m n : Nat} (h : A.units + (m + 1) < n) : A.in1.units + m < n := by
  have e : A.in1.units = A.units + 1 := rfl
  omega
mutual
theorem rc_lt : ∀ (x y : PyData) (A : Around) (s : Shared) (a b : Value) (as bs : List Addr), Reads s.heap a x as → Reads s.heap b y bs → x.canLay0 = true → y.canLay0 = true → cmp x y = true → x ≠ .none → A.units + x.depth < cLine → SeqAt.RcLt A s a b (dlt x y)
  | .none, y, _, _, _, _, _, _, _, _, _, _, h, n, _ => absurd rfl n
  | .bool _, y, _, _, _, _, _, _, _, _, _, _, h, _, _ => by cases y <;> exact absurd h (by simp [cmp])
  | .list _, y, _, _, _, _, _, _, _, _, _, _, h, _, _ => by cases y <;> exact absurd h (by simp [cmp])
  | .dict _, y, _, _, _, _, _, _, _, _, _, _, h, _, _ => by cases y <;> exact absurd h (by simp [cmp])
  | .int m, y, A, s, a, b, _, _, ra, rb, _, _, h, _, _ => by
    cases y with
    | int n =>
      cases ra
      cases rb
      rw [dlt_int]
      exact fun prog w E Q q => HT.rcLt_int A s _ _ _ _ prog w E Q q
    | _ => exact absurd h (by simp [cmp])
  | .str m, y, A, s, a, b, _, _, ra, rb, _, _, h, _, _ => by
    cases y with
    | str n =>
      cases ra
      cases rb
      rw [dlt_str]
      exact fun prog w E Q q => DT.rcLt_str A s _ _ _ _ prog w E Q q
    | _ => exact absurd h (by simp [cmp])
  | .tuple xs, y, A, s, a, b, _, _, ra, rb, la, lb, h, _, hu => by
    cases y with
    | tuple ys =>
      cases ra with
      | tuple h1 h2 h3 h4 =>
        cases rb with
        | tuple k1 k2 k3 k4 =>
          rw [dlt_tup]
          exact rc_first ⟨_, h1, h2, _, h3⟩ ⟨_, k1, k2, _, k3⟩ (by omega) (fst_lt xs ys A.in1 s _ _ _ _ h4 k4 (by simpa [PyData.canLay0] using la) (by simpa [PyData.canLay0] using lb) (by simpa [cmp] using h) (by
            rw [PyData.depth] at hu
            exact units_in1 hu))
    | _ => exact absurd h (by simp [cmp])
theorem fst_lt : ∀ (xs ys : List PyData) (A : Around) (s : Shared) (us vs : List Value) (as bs : List Addr), ReadsAll s.heap us xs as → ReadsAll s.heap vs ys bs → PyData.canLayAll0 xs = true → PyData.canLayAll0 ys = true → cmpA xs ys = true → A.units + PyData.depthAll xs < cLine → Fst A s us vs (lx (keyToksAll xs) (keyToksAll ys))
  | [], [], _, _, _, _, _, _, ra, rb, _, _, _, _ => by
    cases ra
    cases rb
    rfl
  | [], y :: ys, _, _, _, _, _, _, ra, rb, _, _, _, _ => by
    cases ra
    cases rb
    rw [tkA_nil, tkA_cons]
    show lx _ _ = _
    rw [lx_one (by simp)]
    simp
    rfl
  | x :: xs, [], _, _, _, _, _, _, ra, rb, _, _, _, _ => by
    cases ra
    cases rb
    rw [tkA_nil, tkA_cons]
    show lx _ _ = _
    rw [lx_one (by simp)]
    rfl
  | x :: xs, y :: ys, A, s, _, _, _, _, ra, rb, la, lb, h, hu => by
    obtain ⟨c1, c2⟩ := cmpA_cons h
    have la' : x.canLay0 = true ∧ PyData.canLayAll0 xs = true := by simpa [PyData.canLayAll0] using la
    have lb' : y.canLay0 = true ∧ PyData.canLayAll0 ys = true := by simpa [PyData.canLayAll0] using lb
    have dx : PyData.depthAll (x :: xs) = max x.depth (PyData.depthAll xs) := by rw [PyData.depthAll]
    cases ra with
    | cons r1 r2 =>
      cases rb with
      | cons q1 q2 =>
        refine ⟨PyData.eqv x y, SeqAt.eqAt_reads x y A s _ _ _ _ r1 q1 la'.1 lb'.1 (by omega), fun e => ?_, fun e => ?_⟩
        · rw [lxA_yes c1 e]
          exact fst_lt xs ys A s _ _ _ _ r2 q2 la'.2 lb'.2 (c2 e) (by omega)
        · rw [lxA_no c1 e]
          exact rc_lt x y A s _ _ _ _ r1 q1 la'.1 lb'.1 c1 (none_eqv c1 e) (by omega)
end
/-! sorting them -/
section
variable {prog : Program} {w : World} {A : Around} {s : Shared} {Q : Bool → Shared → Prop}
theorem one_lt {f : Bool} {x y : PyData} {a b : Value} {as bs : List Addr} (hf : f = true → ∀ t, x ≠ .tuple t) (ra : Reads s.heap a x as) (rb : Reads s.heap b y bs) (la : x.canLay0 = true) (lb : y.canLay0 = true) (h : cmp x y = true) (hn : x ≠ .none) (hu : A.units + x.depth < cLine) (hq : Q (dlt x y) s) (E : Value → Shared → Prop) :
    wpAny (model prog w) A (oneLt' f a b) Q E s := by
  cases x with
  | int m =>
    cases y with
    | int n =>
      cases ra
      cases rb
      rw [dlt_int] at hq
      exact PyProof.Rows.oneLt_any_int hq
    | _ => exact absurd h (by simp [cmp])
  | str m =>
    cases y with
    | str n =>
      cases ra
      cases rb
      rw [dlt_str] at hq
      exact PyProof.Rows.oneLt_any_str hq
    | _ => exact absurd h (by simp [cmp])
  | tuple xs =>
    cases f with
    | true => exact absurd rfl (hf rfl xs)
    | false => exact PySem.W.kat_one a b (rc_lt _ _ A s a b _ _ ra rb la lb h hn hu prog w E _ hq)
  | none => exact absurd rfl hn
  | _ => cases y <;> exact absurd h (by simp [cmp])
theorem kat_of {b fin : Bool} : ∀ (xs ys : List PyData) (i : Nat) (us vs : List Value) (as bs : List Addr), ReadsAll s.heap us xs as → ReadsAll s.heap vs ys bs → PyData.canLayAll0 xs = true → PyData.canLayAll0 ys = true → cmpA xs ys = true → A.units + PyData.depthAll xs < cLine →
    (b = true → i = 0 → ∀ x r, xs = x :: r → ∀ t, x ≠ .tuple t) → fin = decide (xs.length < ys.length) → Q (lx (keyToksAll xs) (keyToksAll ys)) s → PySem.W.KatLex prog w A b fin Q (us.zip vs) i s
  | [], ys, i, _, _, _, _, ra, rb, _, _, _, _, _, hf, hq => by
    cases ra
    rw [List.zip_nil_left]
    refine PySem.W.kat_nil ?_
    cases ys with
    | nil =>
      have e : lx (keyToksAll []) (keyToksAll []) = fin := by rw [hf]; rfl
      exact e ▸ hq
    | cons y ys =>
      have e : lx (keyToksAll []) (keyToksAll (y :: ys)) = fin := by
        rw [hf, tkA_nil, tkA_cons, lx_one (by simp)]
        simp
        rfl
      exact e ▸ hq
  | x :: xs, [], i, _, _, _, _, ra, rb, _, _, _, _, _, hf, hq => by
    cases rb
    rw [List.zip_nil_right]
    refine PySem.W.kat_nil ?_
    have e : lx (keyToksAll (x :: xs)) (keyToksAll []) = fin := by
      rw [hf, tkA_nil, tkA_cons, lx_one (by simp)]
      rfl
    exact e ▸ hq
  | x :: xs, y :: ys, i, _, _, _, _, ra, rb, la, lb, h, hu, hb, hf, hq => by
    obtain ⟨c1, c2⟩ := cmpA_cons h
    have la' : x.canLay0 = true ∧ PyData.canLayAll0 xs = true := by simpa [PyData.canLayAll0] using la
    have lb' : y.canLay0 = true ∧ PyData.canLayAll0 ys = true := by simpa [PyData.canLayAll0] using lb
    have dx : PyData.depthAll (x :: xs) = max x.depth (PyData.depthAll xs) := by rw [PyData.depthAll]
    cases ra with
    | cons r1 r2 =>
      cases rb with
      | cons q1 q2 =>
        rw [List.zip_cons_cons]
        refine PySem.W.kat_cons (SeqAt.eqAt_reads x y A s _ _ _ _ r1 q1 la'.1 lb'.1 (by omega) prog w _ _ (PySem.W.kat_go (fun e => ?_) fun e => ?_))
        · rw [lxA_yes c1 e] at hq
          exact PySem.W.kat_yes (kat_of xs ys (i + 1) _ _ _ _ r2 q2 la'.2 lb'.2 (c2 e) (by omega) (fun _ z => absurd z (Nat.succ_ne_zero i)) (by rw [hf, List.length_cons, List.length_cons]; exact decide_eq_decide.mpr (by omega)) hq)
        · rw [lxA_no c1 e] at hq
          refine PySem.W.kat_no (one_lt (fun z => ?_) r1 q1 la'.1 lb'.1 c1 (none_eqv c1 e) (by omega) hq _)
          rw [Bool.and_eq_true] at z
          exact hb z.1 (by simpa using z.2) x xs rfl
/-- what stands at the head of a tuple -/
def hdT : PyData → PyData
  | .tuple (x :: _) => x
  | _ => .none
/-- rows that may be sorted: tuples, each with a head of one kind -/
structure Rw (n : Nat) (ds : List PyData) : Prop where
  td : tdA ds = true
  lay : ∀ d ∈ ds, d.canLay0 = true
  deep : ∀ d ∈ ds, d.depth ≤ n
  cm : CmA ds
  hd : ∀ d ∈ ds, ∃ x r, d = .tuple (x :: r)
theorem tdA_mem : ∀ {ds : List PyData}, tdA ds = true → ∀ d ∈ ds, td d = true
  | [], _, d, h => nomatch h
  | x :: ds, t, d, h => by
    have t' : td x = true ∧ tdA ds = true := by simpa [tdA] using t
    rcases List.mem_cons.mp h with rfl | h
    · exact t'.1
    · exact tdA_mem t'.2 d h
theorem tdA_of : ∀ {ds : List PyData}, (∀ d ∈ ds, td d = true) → tdA ds = true
  | [], _ => rfl
  | x :: ds, h => by
    rw [tdA, h x List.mem_cons_self, tdA_of fun d hd => h d (List.mem_cons_of_mem _ hd)]
    rfl
theorem rdA_mem {h : Heap} : ∀ {ds : List PyData} {vs : List Value} {as : List Addr}, ReadsAll h vs ds as → ∀ v ∈ vs, ∃ d ∈ ds, ∃ bs, Reads h v d bs
  | _, _, _, .nil, v, hv => nomatch hv
  | _, _, _, .cons r rs, v, hv => by
    rcases List.mem_cons.mp hv with rfl | hv
    · exact ⟨_, List.mem_cons_self, _, r⟩
    · obtain ⟨d, hd, bs, q⟩ := rdA_mem rs v hv
      exact ⟨d, List.mem_cons_of_mem _ hd, bs, q⟩
theorem firsts_rd {h : Heap} : ∀ {ds : List PyData} {vs : List Value} {as : List Addr}, ReadsAll h vs ds as → (∀ d ∈ ds, ∃ x r, d = .tuple (x :: r)) → ∃ fs, PySem.W.KatTups h vs fs ∧ fs.length = vs.length ∧ ∀ f ∈ fs, ∃ x r bs, .tuple (x :: r) ∈ ds ∧ Reads h f x bs
  | _, _, _, .nil, _ => ⟨[], PySem.W.KatTups.nil, rfl, fun _ hf => nomatch hf⟩
  | _, _, _, .cons (d := d) r rs, ht => by
    obtain ⟨fs, g1, g2, g3⟩ := firsts_rd rs fun d hd => ht d (List.mem_cons_of_mem _ hd)
    obtain ⟨x, rest, rfl⟩ := ht d List.mem_cons_self
    cases r with
    | @tuple a o xs n _ _ h1 h2 h3 h4 =>
      cases q : xs.toList with
      | nil =>
        rw [q] at h4
        cases h4
      | cons f fr =>
        rw [q] at h4
        cases h4 with
        | cons r1 r2 =>
          have hf : xs[0]? = some f := by rw [← Array.getElem?_toList, q]; rfl
          refine ⟨f :: fs, PySem.W.KatTups.cons h1 h2 h3 hf g1, by rw [List.length_cons, List.length_cons, g2], fun g hg => ?_⟩
          rcases List.mem_cons.mp hg with rfl | hg
          · exact ⟨x, rest, _, List.mem_cons_self, r1⟩
          · obtain ⟨x', r', bs, m1, m2⟩ := g3 g hg
            exact ⟨x', r', bs, List.mem_cons_of_mem _ m1, m2⟩
/-- of one kind -/
theorem kind_same {x y : PyData} (h : cmp x y = true) : PySem.W.dataType x = PySem.W.dataType y := by
  cases x <;> cases y <;> first | rfl | exact absurd h (by simp [cmp])
theorem rows_sortable {n : Nat} {a : Addr} {vs : List Value} {ds : List PyData} {as : List Addr} (h2 : 2 ≤ vs.length) (R : Rw n ds) (r : ReadsAll s.heap vs ds as) (hu : A.units + n < cLine) (ha : ∀ o, s.heap.get? a = some o → o.cls ≠ .type "tuple") :
    SrtO.SortableO prog w A s a vs fun v u => dlt (dOf s.heap v) (dOf s.heap u) := by
  intro h' keep
  have kk : ∀ b o, s.heap.get? b = some o → o.cls = .type "tuple" → h'.get? b = some o := fun b o e c => keep b o (fun z => by subst z; exact ha o e c) e
  have r' : ReadsAll h' vs ds as := rdA_keep kk _ _ _ R.td r
  obtain ⟨fs, g1, g2, g3⟩ := firsts_rd r' R.hd
  obtain ⟨d0, hd0⟩ : ∃ d0, d0 ∈ ds := by
    have e := SeqAt.ReadsAll.length _ _ _ r
    cases ds with
    | nil => rw [e] at h2; exact absurd h2 (by simp)
    | cons d ds => exact ⟨d, List.mem_cons_self⟩
  obtain ⟨x0, r0, e0⟩ := R.hd d0 hd0
  have same : ∀ x r, PyData.tuple (x :: r) ∈ ds → PySem.W.dataType x = PySem.W.dataType x0 := fun x r hm => by
    have c := R.cm _ hm _ hd0
    rw [e0] at c
    exact kind_same (cmpA_cons (show cmpA (x :: r) (x0 :: r0) = true by simpa [cmp] using c)).1
  refine ⟨tuples' (PySem.W.dataType x0 != Value.type "tuple"), fun Q E hq => ?_, fun p q hp hq => ?_⟩
  · refine PySem.W.kat_kind (T := PySem.W.dataType x0) g1 (by omega) (fun f hf => ?_) (beq_self_eq_true _) hq
    obtain ⟨x, rr, bs, m1, m2⟩ := g3 f hf
    rw [← same x rr m1]
    exact PySem.W.looks_reads m2
  · obtain ⟨d, hd, bs, rd⟩ := rdA_mem r _ hp
    obtain ⟨e, he, cs, re⟩ := rdA_mem r _ hq
    have tdd := tdA_mem R.td d hd
    have tde := tdA_mem R.td e he
    show wpAny (model prog w) A (keyLt' (tuples' _) p.1 q.1) (fun r s' => s' = { s with heap := h' } ∧ r = dlt (dOf s.heap p.1) (dOf s.heap q.1)) (fun _ _ => False) { s with heap := h' }
    rw [dOf_eq tdd rd, dOf_eq tde re]
    have rd' := rd_keep kk _ _ _ tdd rd
    have re' := rd_keep kk _ _ _ tde re
    have c := R.cm d hd e he
    obtain ⟨x, rx, rfl⟩ := R.hd d hd
    obtain ⟨y, ry, rfl⟩ := R.hd e he
    generalize p.1 = u at rd' ⊢
    generalize q.1 = v at re' ⊢
    have l1 := R.lay _ hd
    have l2 := R.lay _ he
    have dp := R.deep _ hd
    cases rd' with
    | tuple h1 h2 h3 h4 =>
      cases re' with
      | tuple k1 k2 k3 k4 =>
        have n1 := SeqAt.ReadsAll.length _ _ _ h4
        have n2 := SeqAt.ReadsAll.length _ _ _ k4
        rw [Array.length_toList] at n1 n2
        rw [dlt_tup]
        refine PySem.W.kat_lt (s := { s with heap := h' }) h1 h3 k1 k3 (kat_of (s := { s with heap := h' }) (x :: rx) (y :: ry) 0 _ _ _ _ h4 k4 (by simpa [PyData.canLay0] using l1) (by simpa [PyData.canLay0] using l2) (by simpa [cmp] using c) ?_ (fun hb _ x' r' ex t et => ?_) (by rw [n1, n2]) ⟨rfl, rfl⟩)
        · have : PyData.depth (.tuple (x :: rx)) = PyData.depthAll (x :: rx) + 1 := by rw [PyData.depth]
          omega
        · obtain ⟨rfl, rfl⟩ := List.cons.inj ex
          rw [← same _ _ hd, et] at hb
          exact absurd (show (Value.type "tuple" != Value.type "tuple") = true from hb) (by decide)
end
theorem perm_vals {K : PySem.W.Frag} {p : Addr} {H : Hp} {its out : List Value} (pm : its.Perm out) : ∀ (xs : List V) (ds : List PyData), Vals xs its → DqAll K p H xs ds → ∃ ys es, Vals ys out ∧ DqAll K p H ys es ∧ es.Perm ds := by
  induction pm with
  | nil => exact fun xs ds r q => ⟨xs, ds, r, q, .refl _⟩
  | cons v _ ih =>
    intro xs ds r q
    cases r with
    | cons r1 r2 =>
      cases q with
      | cons q1 q2 =>
        obtain ⟨ys, es, a, b, c⟩ := ih _ _ r2 q2
        exact ⟨_, _, .cons r1 a, .cons q1 b, c.cons _⟩
  | swap u v l =>
    intro xs ds r q
    cases r with
    | cons r1 r2 =>
      cases r2 with
      | cons r2 r3 =>
        cases q with
        | cons q1 q2 =>
          cases q2 with
          | cons q2 q3 => exact ⟨_, _, .cons r2 (.cons r1 r3), .cons q2 (.cons q1 q3), .swap _ _ _⟩
  | trans _ _ ih1 ih2 =>
    intro xs ds r q
    obtain ⟨ys, es, a, b, c⟩ := ih1 _ _ r q
    obtain ⟨zs, fs, a2, b2, c2⟩ := ih2 _ _ a b
    exact ⟨zs, fs, a2, b2, c2.trans c⟩
theorem rdA_memD {h : Heap} : ∀ {ds : List PyData} {vs : List Value} {as : List Addr}, ReadsAll h vs ds as → ∀ d ∈ ds, ∃ v ∈ vs, ∃ bs, Reads h v d bs
  | _, _, _, .nil, d, hd => nomatch hd
  | _, _, _, .cons r rs, d, hd => by
    rcases List.mem_cons.mp hd with rfl | hd
    · exact ⟨_, List.mem_cons_self, _, r⟩
    · obtain ⟨v, hv, bs, q⟩ := rdA_memD rs d hd
      exact ⟨v, List.mem_cons_of_mem _ hv, bs, q⟩
theorem sd_out {h : Heap} : ∀ {es : List PyData} {out : List Value} {as : List Addr}, ReadsAll h out es as → tdA es = true → SrtO.Srtd (fun v u => dlt (dOf h v) (dOf h u)) out → Sd es
  | _, _, _, .nil, _, _ => .nil
  | _, _, _, .cons (v := v) (vs := vs) (d := d) (ds := ds) r rs, t, q => by
    have t' : td d = true ∧ tdA ds = true := by simpa [tdA] using t
    obtain ⟨q1, q2⟩ := List.pairwise_cons.mp q
    refine List.pairwise_cons.mpr ⟨fun e he => ?_, sd_out rs t'.2 q2⟩
    obtain ⟨u, hu, bs, ru⟩ := rdA_memD rs e he
    have z : dlt (dOf h u) (dOf h v) = false := q1 u hu
    rw [dOf_eq t'.1 r, dOf_eq (tdA_mem t'.2 e he) ru] at z
    exact z
def rSortedD (K : PySem.W.Frag) : List V → Hp → VK → Prop := fun vs H Q => ∃ (a p : Addr) (xs : List V) (ds : List PyData), vs = [V.ref a] ∧ SqL K H a xs ∧ DqAll K p H xs ds ∧ Rw 60 ds ∧
  ∀ (ys : List V) (b : Addr), DqAll K p H ys (srt ds) → H b = none → Q (.ref b) (upd H b (.lst ys))
theorem cr_sortedD {X : Cx} (hX : X.A.units + 62 < cLine) : CallR X (.builtin "sorted") (rSortedD X.K) := by
  intro pins s σ H vs us Q I r h
  obtain ⟨a, p, xs, ds, rfl, hs, hd, R, q⟩ := h
  obtain ⟨its, rv, hl, hz⟩ := I.list hs
  rw [Vals.ref1 r]
  obtain ⟨as, ra, _⟩ := DqAll.reads I ds xs its hd rv
  have un : X.A.in1.in1.units + 60 < cLine := by
    have e : X.A.in1.in1.units = X.A.units + 1 + 1 := rfl
    omega
  refine SrtO.sorted_ord (ltv := fun v u => dlt (dOf s.heap v) (dOf s.heap u)) (swo_dlt (dOf s.heap)) hl.isList (by rw [← rv.length]; exact hz) (fun h2 h₁ a' ha kp => ?_) fun out h1 h2 => ?_
  · have kk : ∀ b o, s.heap.get? b = some o → o.cls = .type "tuple" → h₁.get? b = some o := fun b o e _ => (kp b o e).2
    have ra1 : ReadsAll h₁ its ds as := rdA_keep kk _ _ _ R.td ra
    have e : (fun v u => dlt (dOf s.heap v) (dOf s.heap u)) = fun v u => dlt (dOf s.heap v) (dOf s.heap u) := rfl
    have S := rows_sortable (prog := X.prog) (w := X.w) (s := { s with heap := h₁ }) (a := a') h2 R ra1 un fun o eo => by
      cases (show some o = some (seqObj "list" its.toArray 0) from eo.symm.trans ha)
      intro c
      exact absurd (Value.type.inj c) (by decide)
    intro h' keep
    obtain ⟨κ, k1, k2⟩ := S h' keep
    refine ⟨κ, k1, fun u v hu hv => ?_⟩
    have eq : ∀ z ∈ its, dOf h₁ z = dOf s.heap z := fun z hz => by
      obtain ⟨d, hd, bs, rd⟩ := rdA_mem ra z hz
      have tdd := tdA_mem R.td d hd
      rw [dOf_eq tdd rd, dOf_eq tdd (rd_keep kk _ _ _ tdd rd)]
    have g := k2 u v hu hv
    show wpAny (model X.prog X.w) X.A.in1.in1 (keyLt' κ u.1 v.1) (fun r s' => s' = { s with heap := h' } ∧ r = dlt (dOf s.heap u.1) (dOf s.heap v.1)) (fun _ _ => False) { s with heap := h' }
    rw [← eq _ hu, ← eq _ hv]
    exact g
  · obtain ⟨ys, es, rvo, hq, pm⟩ := perm_vals h2.perm.symm xs ds rv hd
    obtain ⟨bs, ro, _⟩ := DqAll.reads I es ys out hq rvo
    have te : tdA es = true := tdA_of fun d hd => tdA_mem R.td d (pm.mem_iff.mp hd)
    have ee : es = srt ds := srt_of pm (sd_out ro te h1) R.cm
    obtain ⟨ep, he'⟩ := PyProof.Rows.sortedAll_at s.heap its out.toArray
    have hlen : ys.length ≤ sizeLine := by
      have l1 := rvo.length
      have l2 := h2.perm.length_eq
      have l3 := rv.length
      omega
    rw [ee] at hq
    exact ⟨.ref _, upd H (s.heap.objs.size + 1) (.lst ys), I.laid (t' := s.toks) (fun _ _ => PyProof.Rows.sortedAll_old) (Nat.le_succ _) ⟨hlen, out, ep, rvo, he'⟩, rfl, q _ _ hq (I.hok.fresh (Nat.le_succ _))⟩
end So
end Jf
set_option Elab.async false
set_option linter.all false
set_option maxRecDepth 100000
set_option maxHeartbeats 4000000
namespace Jf
open PySem PySem.Spec PyProof.Rows L2
/-! ### a tuple times 0, times 1 -/
theorem tup_mul0 (l : Addr) (items : Array Value) (n : Nat) (dd : Option Addr) (sl : Array (Option Value)) (u : Tok) (c1 : (items.isEmpty || (0 : Int) == 1) = false) :
    Meets (Builtin.«tuple.__mul__» ⟨[.ref l, .int 0 u], []⟩) (fun _ R s => s.heap.get? l = some { cls := .type "tuple", dict := dd, data := .seq items n, slots := sl } ∧
      R (.ok (.ret (Value.ref s.heap.objs.size))) { s with heap := s.heap.push { cls := Value.type "tuple", data := Data.seq #[] }, toks := s.toks }) :=
  .of_wp fun prog w A R s h => by
    obtain ⟨hp, g, d, tk, os⟩ := s
    obtain ⟨hl, h⟩ := h
    have f1 := AutoSeq1.idx_int
    wp_walk using wpAny_loadPart' hl
    repeat (first
      | (refine wpAny_ite_false (decide_eq_false (by rw [c1]; exact Bool.false_ne_true)) ?_; wp_walk using wpAny_loadPart' hl)
      | (refine wpAny_ite_false (decide_eq_false (by decide)) ?_; wp_walk using wpAny_loadPart' hl)
      | (refine wpAny_ite_true (decide_eq_true (by simp)) ?_; wp_walk using wpAny_loadPart' hl))
    exact ⟨_, rfl, h⟩
theorem tup_mul1 (l : Addr) (items : Array Value) (n : Nat) (dd : Option Addr) (sl : Array (Option Value)) (u : Tok) :
    Meets (Builtin.«tuple.__mul__» ⟨[.ref l, .int 1 u], []⟩) (fun _ R s => s.heap.get? l = some { cls := .type "tuple", dict := dd, data := .seq items n, slots := sl } ∧
      R (.ok (.ret (Value.ref l))) s) :=
  .of_wp fun prog w A R s h => by
    obtain ⟨hp, g, d, tk, os⟩ := s
    obtain ⟨hl, h⟩ := h
    have f1 := AutoSeq1.idx_int
    wp_walk using wpAny_loadPart' hl
    repeat (first
      | (refine wpAny_ite_false (decide_eq_false (by decide)) ?_; wp_walk using wpAny_loadPart' hl)
      | (refine wpAny_ite_true (decide_eq_true (by simp)) ?_; wp_walk using wpAny_loadPart' hl))
    exact ⟨_, rfl, h⟩
def rRepZ (K : PySem.W.Frag) : R2 := fun x y H Q => ∃ l k xs, x = .ref l ∧ y = .int k ∧ SqT K H l xs ∧ xs ≠ [] ∧ 0 ≤ k ∧ k ≤ 1000 ∧ xs.length ≤ 1000 ∧ (k ≠ 1 → ∀ p, H p = none → Q (.ref p) (upd H p (.tup (List.replicate k.toNat xs).flatten))) ∧ (k = 1 → Q (.ref l) H)
theorem op_repZ {X : Cx} : OpR X (binaryOp .Mult) (rRepZ X.K) := by
  intro pins s σ H x y v u Q I rx ry h
  obtain ⟨l, k, xs, rfl, rfl, hT, hne, h1, h2, hz, q, q1⟩ := h
  by_cases k2 : 2 ≤ k
  · exact op_repT pins s σ H _ _ v u Q I rx ry ⟨l, k, xs, rfl, rfl, hT, hne, k2, h2, hz, q (by omega)⟩
  cases rx
  obtain ⟨t, rfl⟩ := ry
  obtain ⟨its, r, ⟨⟨cls, dd, data, sl⟩, ho, hc, n, hd⟩, hs⟩ := I.tuple hT
  simp only at hc hd
  subst hc hd
  have hle : its.length = xs.length := r.length.symm
  have hn : its ≠ [] := fun e => hne (by
    rw [e] at hle
    exact List.eq_nil_of_length_eq_zero hle.symm)
  have hi : its.toArray.isEmpty = false := by
    cases its with
    | nil => exact absurd rfl hn
    | cons a b => rfl
  by_cases k0 : k = 0
  · subst k0
    refine wpAny_binaryOp_repeat_ref (T := "tuple") (U := "int") (by decide) ⟨_, ho, rfl⟩ (fun s' => typeIs_int s' 0 t) noFill_tuple_mul F.fills_int_mul F.slot_int_rmul repeat_tuple F.slot_int_index.lookup
      (call_meets F.slot_int_rmul (typeIs_int s 0 t) F.entry_int_rmul (F.args_int_rmul_2 _ _) (int_rmul_tuple 0 t l its.toArray n dd sl)
        ⟨ho, rfl, ⟨_, ho, rfl⟩, call_meets F.slot_tuple_mul ⟨_, ho, rfl⟩ F.entry_tuple_mul (F.args_tuple_mul_2 _ _) (tup_mul0 l its.toArray n dd sl t (by rw [hi]; rfl)) ⟨ho, ?_⟩⟩)
    refine ⟨.ref s.heap.objs.size, _, I.laid (t' := s.toks) (o := .tup []) (fun b ob q => Heap.get?_push_of_some _ q) (Nat.le_refl _) ?_, rfl, q (by decide) _ (I.hok.fresh (Nat.le_refl _))⟩
    exact ⟨by show 0 ≤ sizeLine; exact Nat.zero_le _, [], .nil, IsTup.new _ _⟩
  · obtain rfl : k = 1 := by omega
    refine wpAny_binaryOp_repeat_ref (T := "tuple") (U := "int") (by decide) ⟨_, ho, rfl⟩ (fun s' => typeIs_int s' 1 t) noFill_tuple_mul F.fills_int_mul F.slot_int_rmul repeat_tuple F.slot_int_index.lookup
      (call_meets F.slot_int_rmul (typeIs_int s 1 t) F.entry_int_rmul (F.args_int_rmul_2 _ _) (int_rmul_tuple 1 t l its.toArray n dd sl)
        ⟨ho, rfl, ⟨_, ho, rfl⟩, call_meets F.slot_tuple_mul ⟨_, ho, rfl⟩ F.entry_tuple_mul (F.args_tuple_mul_2 _ _) (tup_mul1 l its.toArray n dd sl t) ⟨ho, ?_⟩⟩)
    exact ⟨.ref l, _, I, rfl, q1 rfl⟩
/-! ### is True -/
def rIsB : R2 := fun x y H Q => ∃ b c, x = .bl b ∧ y = .bl c ∧ Q (.bl (b == c)) H
theorem op_isB {X : Cx} : OpR X (compareOp .Is) rIsB := by
  intro pins s σ H x y v u Q I rx ry h
  obtain ⟨b, c, rfl, rfl, q⟩ := h
  cases rx
  cases ry
  exact is_bool (fin_bl I q rfl)
end Jf
set_option Elab.async false
set_option linter.all false
set_option maxRecDepth 100000
set_option maxHeartbeats 4000000
namespace Jf
open PySem PySem.Spec PyProof.Rows L2
/-! ### dicts whose keys are tuples of ints, texts and None -/
/-- a value that stands in a key -/
def sk : NestedKey → V → Prop
  | .none, v => v = .non
  | .num i, v => v = .int i
  | .text x, v => v = .str x
  | .tup _, _ => False
/-- the tuple at b is the key k -/
def KyN (H : Hp) (b : Addr) (k : NestedKey) : Prop := ∃ ks vs, k = .tup ks ∧ H b = some (.tup vs) ∧ Paired sk ks vs
theorem KyN.keeps {H H' : Hp} {b : Addr} {k : NestedKey} (h : KyN H b k) (ht : ∀ b ys, H b = some (.tup ys) → H' b = some (.tup ys)) : KyN H' b k := by
  obtain ⟨ks, vs, e, h, p⟩ := h
  exact ⟨ks, vs, e, ht _ _ h, p⟩
theorem sk_all {h : Heap} : ∀ {ks : List NestedKey} {vs : List V} {us : List Value}, Paired sk ks vs → Vals vs us → NestedAll h ks us ∧ NestedKey.depthAll ks = 0
  | _, _, _, .nil, .nil => ⟨.nil, rfl⟩
  | k :: ks, _, _, .cons e t, .cons r rs => by
    obtain ⟨a, d⟩ := sk_all (h := h) t rs
    cases k with
    | none =>
      cases e
      cases r
      exact ⟨.cons .none a, by simp [NestedKey.depthAll, NestedKey.depth, d]⟩
    | num i =>
      cases e
      obtain ⟨t', rfl⟩ := r
      exact ⟨.cons (.int i t') a, by simp [NestedKey.depthAll, NestedKey.depth, d]⟩
    | text x =>
      cases e
      obtain ⟨t', rfl⟩ := r
      exact ⟨.cons (.text x t') a, by simp [NestedKey.depthAll, NestedKey.depth, d]⟩
    | tup _ => exact False.elim e
section
variable {P : Program} {w : World} {H : Hp} {h : Heap} {a b : Addr}
theorem keyN_of {k : NestedKey} (ok : HOk P w H h) (e : KyN H b k) : (nestedKind P w).is h k b := by
  obtain ⟨ks, vs, rfl, hb, p⟩ := e
  obtain ⟨_, its, r, o, h1, h2, n, h3⟩ := (show ObjOk P w H h b (.tup vs) from ok b _ hb)
  obtain ⟨q, d⟩ := sk_all (h := h) p r
  refine ⟨.tup h1 h2 h3 q, ?_⟩
  show (NestedKey.tup ks).depth ≤ 8
  simp [NestedKey.depth, d]
/-- the object of such a dict -/
def dnF (P : Program) (w : World) (a : Addr) (xs : List (NestedKey × Addr × Value)) : Heap → Prop := fun h =>
  ∃ o es ep, h.get? a = some o ∧ o.ExactDict ∧ o.data = .dict es ep ∧ es.toList = xs.map (entryOfKey (nestedKind P w)) ∧ (xs.map (·.1)).Nodup
abbrev KN (H : Hp) : List (NestedKey × V) → List (NestedKey × Addr × Value) → Prop := Paired fun p q => p.1 = q.1 ∧ KyN H q.2.1 p.1 ∧ RelV p.2 q.2.2
/-- the dict at a holds these -/
def DN (P : Program) (w : World) (H : Hp) (a : Addr) (kvs : List (NestedKey × V)) : Prop := ∃ xs, H a = some (.ext (dnF P w a xs)) ∧ KN H kvs xs ∧ kvs.length ≤ sizeLine ∧ (a == sysModules) = false
theorem KN.keeps {H H' : Hp} {kvs : List (NestedKey × V)} {xs : List (NestedKey × Addr × Value)} (r : KN H kvs xs) (ht : ∀ b ys, H b = some (.tup ys) → H' b = some (.tup ys)) : KN H' kvs xs :=
  Paired.mapP r fun _ _ z => ⟨z.1, z.2.1.keeps ht, z.2.2⟩
/-- it stays where its object and the tuples stay -/
theorem DN.keeps {H H' : Hp} {kvs : List (NestedKey × V)} (d : DN P w H a kvs) (e : ∀ φ, H a = some (.ext φ) → H' a = some (.ext φ)) (ht : ∀ b ys, H b = some (.tup ys) → H' b = some (.tup ys)) : DN P w H' a kvs := by
  obtain ⟨xs, h1, h2, h3⟩ := d
  exact ⟨xs, e _ h1, h2.keeps ht, h3⟩
theorem KN.val {kvs : List (NestedKey × V)} {xs : List (NestedKey × Addr × Value)} (r : KN H kvs xs) (k : NestedKey) : RelO (valV kvs k) ((atKey xs k).map (·.2)) := by
  induction r with
  | nil => exact True.intro
  | @cons p q ps qs h t ih =>
    obtain ⟨h1, _, h2⟩ := h
    by_cases e : p.1 = k
    · have e' : q.1 = k := h1.symm.trans e
      have b : atKey (q :: qs) k = some q.2 := by simp [atKey, List.find?_cons, e']
      rw [valV_pos e, b]; exact h2
    · have e' : ¬ q.1 = k := fun z => e (h1.trans z)
      have b : atKey (q :: qs) k = atKey qs k := by simp [atKey, List.find?_cons, e']
      rw [valV_neg e, b]; exact ih
theorem KN.repl {kvs : List (NestedKey × V)} {xs : List (NestedKey × Addr × Value)} (r : KN H kvs xs) (k : NestedKey) {y : V} {u : Value} (ry : RelV y u) :
    KN H (kvs.map fun kv => if kv.1 = k then (kv.1, y) else kv) (xs.map (putAt k u)) := by
  induction r with
  | nil => exact .nil
  | @cons p q ps qs h t ih =>
    rw [List.map_cons, List.map_cons]
    refine .cons ?_ ih
    obtain ⟨h1, h2, h3⟩ := h
    unfold putAt
    by_cases e : p.1 = k
    · rw [if_pos e, if_pos (h1.symm.trans e)]; exact ⟨h1, h2, ry⟩
    · rw [if_neg e, if_neg (fun z => e (h1.trans z))]; exact ⟨h1, h2, h3⟩
theorem KN.put {kvs : List (NestedKey × V)} {xs : List (NestedKey × Addr × Value)} (r : KN H kvs xs) (k : NestedKey) {y : V} {u : Value} (hb : KyN H b k) (ry : RelV y u) : KN H (putK kvs k y) (storedH xs k b u) := by
  have e : (kvs.any fun kv => decide (kv.1 = k)) = (atKey xs k).isSome := by
    rw [valV_any, (r.val k).isSome_eq, Option.isSome_map]
  unfold putK storedH
  rw [e]
  by_cases q : (atKey xs k).isSome = true
  · rw [if_pos q, if_pos q]; exact r.repl k ry
  · rw [if_neg q, if_neg q]; exact Paired.snoc r ⟨rfl, hb, ry⟩
theorem dn_of {kvs : List (NestedKey × V)} (ok : HOk P w H h) (d : DN P w H a kvs) : kvs.length ≤ sizeLine ∧ (a == sysModules) = false ∧ ∃ xs, H a = some (.ext (dnF P w a xs)) ∧ KN H kvs xs ∧ h.DictOfH (nestedKind P w) a xs := by
  obtain ⟨xs, h1, r, z, hd⟩ := d
  obtain ⟨⟨o, es, ep, g1, g2, g3, g4, g5⟩, _, _⟩ := (show ObjOk P w H h a (.ext (dnF P w a xs)) from ok a _ h1)
  refine ⟨z, hd, xs, h1, r, o, es, ep, g1, g2, g3, g4, fun x hx => ?_, g5⟩
  have all : ∀ {l : List (NestedKey × V)} {m : List (NestedKey × Addr × Value)}, KN H l m → ∀ x ∈ m, (nestedKind P w).is h x.1 x.2.1 := by
    intro l m q
    induction q with
    | nil => intro x hx; exact nomatch hx
    | @cons p q ps qs hq t ih =>
      intro x hx
      rcases List.mem_cons.mp hx with e | hx
      · subst e
        exact keyN_of ok (by rw [← hq.1]; exact hq.2.1)
      · exact ih x hx
  exact all r x hx
theorem dnF_new {xs : List (NestedKey × Addr × Value)} {H' : Hp} {h' : Heap} (dd : h'.DictOfH (nestedKind P w) a xs) : ObjOk P w H' h' a (.ext (dnF P w a xs)) := by
  obtain ⟨o, es, ep, g1, g2, g3, g4, _, g5⟩ := dd
  refine ⟨⟨o, es, ep, g1, g2, g3, g4, g5⟩, ⟨o, g1⟩, fun h1 h2 q k => ?_⟩
  obtain ⟨o, es, ep, g1, g2, g3, g4, g5⟩ := q
  exact ⟨o, es, ep, k o g1, g2, g3, g4, g5⟩
end
section
variable {X : Cx} {pins : List (Addr × Obj)} {σ : L2.St} {H : Hp} {s : Shared} {a b : Addr} {v : V} {r : Value} {A : Around} {E : Value → Shared → Prop} {kvs : List (NestedKey × V)} {k : NestedKey}
theorem n_room (hu : A.units + 9 < cLine) : (nestedKind X.prog X.w).room A.in1 := by
  show A.in1.units + 8 < cLine
  have : A.in1.units = A.units + 1 := rfl
  omega
theorem n_getItem {Q : Value → Shared → Prop} (hu : A.units + 9 < cLine) (I : Inv X pins σ H s) (d : DN X.prog X.w H a kvs) (kb : KyN H b k) (l : valV kvs k = some v) (h : ∀ w' s', Inv X pins σ H s' → RelV v w' → Q w' s') :
    wpAny (model X.prog X.w) A (getItem (.ref a) (.ref b)) Q E s := by
  obtain ⟨z, hd, xs, _, rel, dd⟩ := dn_of I.hok d
  obtain ⟨w', hw, rw'⟩ := RelO.some_of (v := v) (o := (atKey xs k).map (·.2)) (by rw [← l]; exact rel.val k)
  obtain ⟨p, hp, hp2⟩ := Option.map_eq_some_iff.mp hw
  refine wpAny_getItem_heap (n_room (X := X) hu) (keyN_of I.hok kb) dd hp ?_
  rw [hp2]
  exact h w' _ (I.tok _) rw'
theorem n_in {Q : Value → Shared → Prop} (hu : A.units + 9 < cLine) (I : Inv X pins σ H s) (d : DN X.prog X.w H a kvs) (kb : KyN H b k) (h : ∀ s', Inv X pins σ H s' → Q (.bool (valV kvs k).isSome) s') :
    wpAny (model X.prog X.w) A (compareOp .In (.ref b) (.ref a)) Q E s := by
  obtain ⟨z, hd, xs, _, rel, dd⟩ := dn_of I.hok d
  refine wpAny_in_heap (n_room (X := X) hu) (keyN_of I.hok kb) hd dd ?_
  have q := (rel.val k).isSome_eq
  rw [Option.isSome_map] at q
  rw [← q]
  exact h _ (I.tok _)
theorem n_notIn {Q : Value → Shared → Prop} (hu : A.units + 9 < cLine) (I : Inv X pins σ H s) (d : DN X.prog X.w H a kvs) (kb : KyN H b k) (h : ∀ s', Inv X pins σ H s' → Q (.bool (!(valV kvs k).isSome)) s') :
    wpAny (model X.prog X.w) A (compareOp .NotIn (.ref b) (.ref a)) Q E s := by
  obtain ⟨z, hd, xs, _, rel, dd⟩ := dn_of I.hok d
  refine wpAny_notIn_heap (n_room (X := X) hu) (keyN_of I.hok kb) hd dd ?_
  have q := (rel.val k).isSome_eq
  rw [Option.isSome_map] at q
  rw [← q]
  exact h _ (I.tok _)
theorem n_setItem {Q : Unit → Shared → Prop} (hu : A.units + 9 < cLine) (I : Inv X pins σ H s) (d : DN X.prog X.w H a kvs) (kb : KyN H b k) (hl : kvs.length < sizeLine) (rv : RelV v r)
    (h : ∀ φ s', Inv X pins σ (upd H a (.ext φ)) s' → DN X.prog X.w (upd H a (.ext φ)) a (putK kvs k v) → Q () s') : wpAny (model X.prog X.w) A (setItem (.ref a) (.ref b) r) Q E s := by
  obtain ⟨z, hd, xs, e, rel, dd⟩ := dn_of I.hok d
  have hz : xs.length ≤ sizeLine := by rw [← Paired.length rel]; exact z
  have hl' : (putK kvs k v).length ≤ sizeLine := by have := length_putK kvs k v; omega
  refine wpAny_setItem_heap (hsz := hz) (n_room (X := X) hu) (keyN_of I.hok kb) dd fun h' dd' hs => ?_
  have ne : ∀ c ys, H c = some (.tup ys) → upd H a (.ext (dnF X.prog X.w a (storedH xs k b r))) c = some (.tup ys) := fun c ys ec => by
    rw [upd_ne (ne_of ec e (fun z => nomatch z))]
    exact ec
  have hq : ∃ q, h'.get? a = some q := let ⟨q, _, _, hq, _⟩ := dd'; ⟨q, hq⟩
  exact h _ _ (d_write I (by rw [e]; exact True.intro) hs hq (dnF_new dd')) ⟨_, upd_same, (rel.put k kb rv).keeps ne, hl', hd⟩
end
/-! ### readings and rules -/
section
variable (P : Program) (w : World)
/-- d[y] -/
def tNGet (td ty : TE) : TE := fun σ H Q => td σ H fun x H1 => ty σ H1 fun y H2 => ∃ a b kvs k v, x = .ref a ∧ y = .ref b ∧ DN P w H2 a kvs ∧ KyN H2 b k ∧ valV kvs k = some v ∧ Q v H2
/-- y in d, y not in d -/
def tNIn (ty td : TE) : TE := fun σ H Q => ty σ H fun y H1 => td σ H1 fun x H2 => ∃ a b kvs k, x = .ref a ∧ y = .ref b ∧ DN P w H2 a kvs ∧ KyN H2 b k ∧ Q (.bl (valV kvs k).isSome) H2
def tNNotIn (ty td : TE) : TE := fun σ H Q => ty σ H fun y H1 => td σ H1 fun x H2 => ∃ a b kvs k, x = .ref a ∧ y = .ref b ∧ DN P w H2 a kvs ∧ KyN H2 b k ∧ Q (.bl (!(valV kvs k).isSome)) H2
/-- d[y] = v -/
def sNPut (td ty tv : TE) : TS := fun D σ H => tv σ H fun v H1 => td σ H1 fun x H2 => ty σ H2 fun y H3 => ∃ a b kvs k, x = .ref a ∧ y = .ref b ∧ DN P w H3 a kvs ∧ KyN H3 b k ∧ kvs.length < sizeLine ∧
  ∀ φ, DN P w (upd H3 a (.ext φ)) a (putK kvs k v) → D.nx σ (upd H3 a (.ext φ))
/-- {k: v} -/
def tDisp1N (trs : List (TE × TE)) : TE := fun σ H Q => ∀ p, H p = none → tPairs trs σ (upd H p (.dT [])) fun ps H2 => H2 p = some (.dT []) ∧ ∃ (k : NestedKey) (b : Addr) (y : V), ps = [(V.ref b, y)] ∧ KyN H2 b k ∧ ∀ φ, DN P w (upd H2 p (.ext φ)) p [(k, y)] → Q (.ref p) (upd H2 p (.ext φ))
end
section
variable {X : Cx} {o i e value : Expr} {pos pos' tpos : Pos} {td ty tv : TE}
theorem pe_nget (hu : X.A.units + 9 < cLine) (ho : PE X o td) (hi : PE X i ty) (hs : NoSl i) : PE X (.Subscript o i pos) (tNGet X.prog X.w td ty) := by
  refine ⟨fun pins s σ H Q I h => ?_⟩
  refine subD_of PySem.F.slot_dict_getitem.lookup hs (thn (ho.run pins s σ H _ I h) fun u s1 ⟨x, H1, I1, rx, q1⟩ => thn (hi.run pins s1 σ H1 _ I1 q1) fun iv s2 ⟨y, H2, I2, ry, a, b, kvs, k, v, ex, ey, d, kb, l, q2⟩ => ?_)
  subst ex ey
  obtain rfl : u = Value.ref a := rx
  obtain rfl : iv = Value.ref b := ry
  obtain ⟨_, _, xs, _, _, dd⟩ := dn_of I2.hok d
  exact ⟨dd.typeIs, n_getItem hu I2 d kb l fun w' s3 I3 rw' => ⟨v, H2, I3, rw', q2⟩⟩
theorem pc_nin (hu : X.A.units + 9 < cLine) (hi : PE X i ty) (ho : PE X o td) : PC X .In i o (tNIn X.prog X.w ty td) := by
  refine ⟨fun pins s σ H Q I h => ?_⟩
  refine thn (hi.run pins s σ H _ I h) fun iv s1 ⟨y, H1, I1, ry, q1⟩ => thn (ho.run pins s1 σ H1 _ I1 q1) fun u s2 ⟨x, H2, I2, rx, a, b, kvs, k, ex, ey, d, kb, q2⟩ => ?_
  subst ex ey
  obtain rfl : u = Value.ref a := rx
  obtain rfl : iv = Value.ref b := ry
  exact n_in hu I2 d kb fun s3 I3 => ⟨.bl (valV kvs k).isSome, H2, I3, rfl, q2⟩
theorem pc_nnotin (hu : X.A.units + 9 < cLine) (hi : PE X i ty) (ho : PE X o td) : PC X .NotIn i o (tNNotIn X.prog X.w ty td) := by
  refine ⟨fun pins s σ H Q I h => ?_⟩
  refine thn (hi.run pins s σ H _ I h) fun iv s1 ⟨y, H1, I1, ry, q1⟩ => thn (ho.run pins s1 σ H1 _ I1 q1) fun u s2 ⟨x, H2, I2, rx, a, b, kvs, k, ex, ey, d, kb, q2⟩ => ?_
  subst ex ey
  obtain rfl : u = Value.ref a := rx
  obtain rfl : iv = Value.ref b := ry
  exact n_notIn hu I2 d kb fun s3 I3 => ⟨.bl (!(valV kvs k).isSome), H2, I3, rfl, q2⟩
theorem ps_nput (hu : X.A.units + 9 < cLine) (ho : PE X o td) (hi : PE X i ty) (hv : PE X value tv) (hs : swapsWith value (some (.Subscript o i pos')) pos.line X.env = pure false) :
    PS X (.Assign [.Subscript o i pos'] value pos) (sNPut X.prog X.w td ty tv) := by
  refine ⟨fun pins s σ H D I h => ?_⟩
  refine wpAny_Assign_Subscript (thn (hv.run pins s σ H _ I h) fun r s1 ⟨v, H1, I1, rv, q1⟩ => thn (ho.run pins s1 σ H1 _ I1 q1) fun u s2 ⟨x, H2, I2, rx, q2⟩ => thn (hi.run pins s2 σ H2 _ I2 q2) fun iv s3 ⟨y, H3, I3, ry, a, b, kvs, k, ex, ey, d, kb, hl, q3⟩ => ?_) hs
  subst ex ey
  obtain rfl : u = Value.ref a := rx
  obtain rfl : iv = Value.ref b := ry
  exact n_setItem hu I3 d kb hl rv fun φ s4 I4 d4 => ⟨σ, _, I4, q3 φ d4⟩
theorem pe_disp1N {keys : List (Option Expr)} {values : List Expr} {trs : List (TE × TE)} (hu : X.A.units + 9 < cLine) (h : PPs X pos keys values trs) (hall : keys.all (·.isSome) = true) (hl : keys.length = values.length) (h0 : keys ≠ [])
    (h15 : keys.length ≤ 15) : PE X (.Dict keys values pos) (tDisp1N X.prog X.w trs) := by
  refine ⟨fun pins s σ H Q I q => ?_⟩
  have hn := I.hok.fresh (Nat.le_refl s.heap.objs.size)
  have I1 := I.laid (a := s.heap.objs.size) (o := .dT []) (h' := s.heap.push { cls := .type "dict", data := .dict #[] }) (t' := s.toks) (fun _ _ q => Heap.get?_push_of_some _ q) (Nat.le_refl _) (dt_empty s.heap I.big)
  have hnl := pairTrees_length keys values X.env pos hall hl
  have ne : pairTrees keys values X.env pos ≠ [] := fun e => by
    rw [e] at hnl
    exact h0 (List.length_eq_zero_iff.mp hnl.symm)
  rw [arm_eval_Dict, zip_pairTrees keys values X.env pos hall hl, dictDisplay_pairs _ ne (by omega)]
  refine wpAny_bind (wpAny_standAt (wpAny_bind (wpAny_subDictH (knd := nestedKind X.prog X.w) (by show X.A.units + 8 < cLine; omega) (by omega) (thn (h.run pins _ σ _ _ I1 (q _ hn)) fun ws s2 ⟨ps, H2, I2, rel, e, k, b, y, ep, hb, q2⟩ => ?_))))
  subst ep
  obtain ⟨kv, yv, ew, ra, rb⟩ : ∃ kv yv, ws = [(kv, yv)] ∧ RelV (.ref b) kv ∧ RelV y yv := by
    cases rel with
    | @cons p q ps qs r1 r2 =>
      cases r2
      exact ⟨q.1, q.2, rfl, r1.1, r1.2⟩
  subst ew
  cases (show kv = Value.ref b from ra)
  obtain ⟨z, hd, xs, r0, dd⟩ := dt_of I2.hok e
  cases r0
  have dd0 : s2.heap.DictOfH (nestedKind X.prog X.w) s.heap.objs.size [] := by
    obtain ⟨o, es, ep, g1, g2, g3, g4, _, _⟩ := dd
    exact ⟨o, es, ep, g1, g2, g3, g4, (fun x hx => by cases hx), .nil⟩
  refine ⟨[(k, b, yv)], ⟨rfl, rfl, keyN_of I2.hok hb, trivial⟩, dd0, fun h' tk dd' hs => wpAny_pure ⟨.ref s.heap.objs.size, _, ?_, rfl, q2 (dnF X.prog X.w s.heap.objs.size [(k, b, yv)]) ?_⟩⟩
  · have hq : ∃ q, h'.get? s.heap.objs.size = some q := let ⟨q, _, _, hq, _⟩ := dd'; ⟨q, hq⟩
    exact d_write I2 (by rw [e]; exact True.intro) hs hq (dnF_new dd')
  · refine ⟨_, upd_same, .cons ⟨rfl, hb.keeps fun c ys ec => ?_, rb⟩ .nil, by show 1 ≤ sizeLine; decide, hd⟩
    rw [upd_ne (ne_of ec e (fun z => nomatch z))]
    exact ec
/-- o[i] = v of such a dict, by values (for pg_sub) -/
def rSetN (P : Program) (w : World) : TSet := fun o i v H Q => ∃ a b kvs k, o = .ref a ∧ i = .ref b ∧ DN P w H a kvs ∧ KyN H b k ∧ kvs.length < sizeLine ∧ ∀ φ, DN P w (upd H a (.ext φ)) a (putK kvs k v) → Q (upd H a (.ext φ))
theorem set_nest (hu : X.A.units + 9 < cLine) : PSet X (rSetN X.prog X.w) := by
  intro pins s σ H o i v ov iv u Q I ro ri rv h
  obtain ⟨a, b, kvs, k, eo, ei, d, kb, hl, q⟩ := h
  subst eo ei
  cases (show ov = Value.ref a from ro)
  cases (show iv = Value.ref b from ri)
  exact n_setItem hu I d kb hl rv fun φ s' I' d' => ⟨_, I', q φ d'⟩
end
end Jf
set_option Elab.async false
set_option linter.all false
set_option maxRecDepth 100000
set_option maxHeartbeats 4000000
namespace Jf
open PySem PySem.Spec PyProof.Rows L2
/-! ### {}, to be a dict whose keys are nested -/
def tDNewN (P : Program) (w : World) : TE := fun _ H Q => ∀ p φ, H p = none → DN P w (upd H p (.ext φ)) p [] → Q (.ref p) (upd H p (.ext φ))
theorem pe_dnewN {X : Cx} {pos : Pos} : PE X (.Dict [] [] pos) (tDNewN X.prog X.w) := ⟨fun pins s σ H Q I h => by
  refine wpAny_Dict_empty ?_
  have dd : (s.heap.push { cls := .type "dict", data := .dict #[] }).DictOfH (nestedKind X.prog X.w) s.heap.objs.size [] := ⟨_, #[], 0, Heap.get?_push_size _ rfl, ⟨rfl, rfl, rfl⟩, rfl, rfl, (fun x hx => by cases hx), .nil⟩
  have fr := I.hok.fresh (Nat.le_refl s.heap.objs.size)
  refine ⟨.ref s.heap.objs.size, _, I.laid (a := s.heap.objs.size) (o := .ext (dnF X.prog X.w s.heap.objs.size [])) (t' := s.toks) (fun _ _ q => Heap.get?_push_of_some _ q) (Nat.le_refl _) (dnF_new dd), rfl, h _ _ fr ?_⟩
  exact ⟨[], upd_same, .nil, by show 0 ≤ sizeLine; decide, beq_eq_false_iff_ne.mpr (Ne.symm (Nat.ne_of_lt I.big))⟩⟩
end Jf
set_option Elab.async false
set_option linter.all false
set_option maxRecDepth 100000
set_option maxHeartbeats 4000000
namespace Jf
open PySem PySem.Spec PyProof.Rows L2 Evl GxR GenW
/-! ### all(..), any(e for .. in an iterable), e reads names that are captured -/
/-- the inner scope: its names, and those that it captures -/
structure ManyC (outer scope : Scope) (xs ys : List Str) : Prop where
  kind : scope.kind = .function
  co : scope.isCoroutine = false
  cell : ∀ y ∈ scope.names, y.2 ≠ .cell
  dot : scope.names.lookup (".0" : Str) = some NameKind.local
  free : ∀ y ∈ scope.names, y.2 = .free → outer.names.lookup y.1 = some .cell ∨ outer.names.lookup y.1 = some .free
  capt : ∀ y ∈ ys, scope.names.lookup y = some .free
def manyCB (outer scope : Scope) (ys : List Str) : Bool :=
  decide (scope.kind = .function) && !scope.isCoroutine && decide (scope.names.lookup (".0" : Str) = some NameKind.local) && (scope.names.all fun y => !decide (y.2 = .cell) && (!decide (y.2 = .free) || decide (outer.names.lookup y.1 = some .cell) || decide (outer.names.lookup y.1 = some .free))) && ys.all fun y => decide (scope.names.lookup y = some .free)
theorem manyC_by {outer scope : Scope} {xs ys : List Str} (h : manyCB outer scope ys = true) : ManyC outer scope xs ys := by
  unfold manyCB at h
  simp only [Bool.and_eq_true, Bool.or_eq_true, Bool.not_eq_true', decide_eq_true_eq, decide_eq_false_iff_not, List.all_eq_true] at h
  obtain ⟨⟨⟨⟨h1, h2⟩, h3⟩, h4⟩, h5⟩ := h
  refine ⟨h1, h2, fun y hy => (h4 y hy).1, h3, fun y hy e => ?_, h5⟩
  rcases (h4 y hy).2 with (z | z) | z
  · exact absurd e z
  · exact .inl z
  · exact .inr z
/-- the inner context: the walked objects free to turn, the captured names behind its own -/
def gzOf (X : Cx) (xs ys : List Str) (s : Shared) (H : Hp) (cenv : Env) (B : Around) (fp : List Addr) : Cx where
  prog := X.prog
  w := X.w
  K := X.K
  mg := X.mg
  base := X.base
  A := B
  N := ".0" :: (xs ++ ys)
  s_0 := s
  H_0 := H
  env := cenv
  outer := X.stack
  stack := cenv :: X.stack
  ex := fp
  fn := fun _ => false
  calm := true
  pn := []
  xe := fun _ _ => False
/-- the slots: the captured ones stay -/
def SlC (M : Nat) (caps : List V) (σ : L2.St) : Prop := σ.length = M + caps.length ∧ σ[0]? = some none ∧ ∀ (i : Nat) (v : V), caps[i]? = some v → σ[M + i]? = some (some v)
/-- the reading: from the left, till one ends it -/
def rdC (neg : Bool) (g : TG) (te : TE) (J : It) (W : L2.St → Prop) : Nat → Nat → Hp → (Bool → Hp → Prop) → Prop
  | 0, i, H, Q => J.stop i H ∧ Q true H
  | n + 1, i, H, Q => J.go i H ∧ ∀ x H1, J.yld i H x H1 → ∀ σ : L2.St, W σ → g x σ H1 fun σ2 H2 => W σ2 ∧ te σ2 H2 fun r H3 => ∃ b, r = .bl (b ^^ neg) ∧ (b = true → rdC neg g te J W n (i + 1) H3 Q) ∧ (b = false → Q false H3)
/-- where the generator stands -/
def GInv3 (Y : Cx) (a : Addr) (go : Obj) (fp : List Addr) (tn : Nat → Heap → Prop) (W : L2.St → Prop) (i : Nat) (H : Hp) (s : Shared) : Prop :=
  ∃ (σ : L2.St) (ps : List (Addr × Obj)), W σ ∧ ps.map (·.1) = fp ∧ tn i s.heap ∧ Inv Y ((a, go) :: ps) σ H s
def gProt3 (neg : Bool) (Y : Cx) (a : Addr) (go : Obj) (fp : List Addr) (tn : Nat → Heap → Prop) (W : L2.St → Prop) (Q : Bool → Hp → Prop) : Protocol := fun _ _ v s kap =>
  ∃ b i H, v = .bool (b ^^ neg) ∧ GInv3 Y a go fp tn W i H s ∧ (b = false → Q false H) ∧ (b = true → ∀ s', s'.os = s.os → AllBare s'.gens → s'.heap = s.heap → kap (.send .none) s')
section
variable {Y : Cx} {a it : Addr} {go : Obj} {fp : List Addr} {tn : Nat → Heap → Prop} {W : L2.St → Prop} {i : Nat} {H : Hp} {s s' : Shared}
theorem GInv3.woke (h : GInv3 Y a go fp tn W i H s) (o : s'.os = s.os) (g : AllBare s'.gens) (e : s'.heap = s.heap) : GInv3 Y a go fp tn W i H s' := by
  obtain ⟨σ, ps, w, c, d, J⟩ := h
  refine ⟨σ, ps, w, c, by rw [e]; exact d, J.call' (ch := []) o ?_ ?_ g fun b z => by simp at z⟩
  · rw [e]
    exact Un.kept fun _ _ q => q
  · rw [e]
    exact J.hok
end
section
variable {Y : Cx} {Aw : Around} {elt iter tg : Expr} {pos : Pos} {scope : Scope} {a it : Addr} {go : Obj} {fp : List Addr} {tn : Nat → Heap → Prop} {J : It} {W : L2.St → Prop} {neg : Bool} {te : TE} {g : TG} {Q : Bool → Hp → Prop}
theorem seg_itLoopC (hA : Aw.handled = none) (hY : Y.A = Aw.over (.compLoop (.GeneratorExp elt [⟨tg, iter, [], 0⟩] scope pos) 0 (.ref it) .none Y.env) []) (hco : Y.env.scope.isCoroutine = false) (hcl : ∀ x c, Y.env.cells.lookup x = some c → c ∉ fp) (hex : ∀ b ∈ fp, b ∈ Y.ex) (ha : a ∉ fp) (hpn : Y.pn = [])
    (hcalm : Y.calm = true) (hxe : Y.xe = fun _ _ => False) (T : Turn Y.prog Y.w Y.K tg J fp it tn) (hg : PG Y tg g) (hel : PE Y elt te) :
    ∀ (n i : Nat) (H : Hp) (s₀ s : Shared), GInv3 Y a go fp tn W i H s → rdC neg g te J W n i H Q →
      Seg (model Y.prog Y.w) Aw (gEnd Y Q) (gProt3 neg Y a go fp tn W Q) n s₀ (.compLoop (.GeneratorExp elt [⟨tg, iter, [], 0⟩] scope pos) 0 (.ref it) .none Y.env)
        ((model Y.prog Y.w).den (.compLoop (.GeneratorExp elt [⟨tg, iter, [], 0⟩] scope pos) 0 (.ref it) .none Y.env)) [] s := by
  have free : ∀ {σ : L2.St} {ps : List (Addr × Obj)} {i : Nat} {H : Hp} {s : Shared}, ps.map (·.1) = fp → Inv Y ((a, go) :: ps) σ H s → Inv Y [(a, go)] σ H s ∧ ∀ b ∈ fp, FpOk Y [(a, go)] H b := fun {σ ps i H s} hm I => by
    refine ⟨I.pins_of fun p hp => I.pin p (List.mem_append_right _ (by
      rw [List.mem_singleton] at hp
      rw [hp]
      exact List.mem_cons_self)), fun b hb => ?_⟩
    rw [← hm] at hb
    obtain ⟨p, hp, rfl⟩ := List.mem_map.mp hb
    have q := I.pin p (List.mem_append_right _ (List.mem_cons_of_mem _ hp))
    refine ⟨q.2.1, q.2.2.1, q.2.2.2.1, .inl (hex _ (hm ▸ List.mem_map.mpr ⟨p, hp, rfl⟩)), (fun x c e z => hcl x c e (by rw [z, ← hm]; exact List.mem_map.mpr ⟨p, hp, rfl⟩)), fun r hr z => ?_⟩
    rw [hpn, List.nil_append, List.mem_singleton] at hr
    subst hr
    exact ha (by rw [← hm]; exact List.mem_map.mpr ⟨p, hp, z.symm⟩)
  intro n
  induction n with
  | zero =>
    intro i H s₀ s hG hr
    obtain ⟨σ, ps, l, hm, ht, I⟩ := hG
    obtain ⟨I1, hf⟩ := free (i := i) hm I
    show Seg _ Aw _ _ _ s₀ _ ((compTurn (.GeneratorExp elt [⟨tg, iter, [], 0⟩] scope pos) 0 (.ref it) .none Y.env).onRaise (leaving Y.env)) [] s
    rw [compTurn_gen, Sem.onRaise_eq_wrap]
    refine seg_bind_wrap (wpAny_standAt ?_)
    refine seg_bind_wrap ?_
    rw [← hY]
    refine wpAny_mono (T.done Y rfl rfl rfl hcalm i [(a, go)] s σ H (fun _ _ => False) I1 hf ht hr.1) ?_ fun _ _ x => x.elim
    rintro r s1 ⟨rfl, I2⟩
    exact seg_end (.ok .next) (.inl ⟨.inr rfl, σ, H, I2.pins_of fun p hp => by simp at hp, hr.2⟩)
  | succ n ih =>
    intro i H s₀ s hG hr
    obtain ⟨σ, ps, l, hm, ht, I⟩ := hG
    obtain ⟨I1, hf⟩ := free (i := i) hm I
    have pa := I1.pin (a, go) (List.mem_append_right _ List.mem_cons_self)
    show Seg _ Aw _ _ _ s₀ _ ((compTurn (.GeneratorExp elt [⟨tg, iter, [], 0⟩] scope pos) 0 (.ref it) .none Y.env).onRaise (leaving Y.env)) [] s
    rw [compTurn_gen, Sem.onRaise_eq_wrap]
    refine seg_bind_wrap (wpAny_standAt ?_)
    refine seg_bind_wrap ?_
    rw [← hY]
    refine wpAny_mono (T.item Y rfl rfl rfl hcalm i [(a, go)] s σ H (fun _ _ => False) I1 hf ht hr.1) ?_ fun _ _ x => x.elim
    rintro r s1 ⟨u, rfl, w1⟩
    refine seg_bind_wrap ?_
    rw [← hY]
    refine wpAny_mono w1 ?_ fun _ _ x => x.elim
    rintro _ s2 ⟨x, H1, I2, ru, hy, ht2, hnone⟩
    obtain ⟨ps2, hm2, ho2⟩ := objs_of (T.obj (i + 1) s2.heap ht2)
    have I3 : Inv Y ((a, go) :: ps2) σ H1 s2 := I2.pins_of fun p hp => by
      rcases List.mem_cons.mp hp with rfl | hp
      · exact I2.pin _ (List.mem_append_right _ List.mem_cons_self)
      · have hb : p.1 ∈ fp := hm2 ▸ List.mem_map.mpr ⟨p, hp, rfl⟩
        obtain ⟨_, f1, f2, _⟩ := hf _ hb
        exact ⟨(ho2 p hp).1, hnone _ hb, f1, f2, (ho2 p hp).2⟩
    refine seg_bind_wrap ?_
    rw [← hY]
    refine wpAny_mono (hg.run _ _ σ H1 x u _ I3 ru (hr.2 x H1 hy σ l)) ?_ fun e s' hx => by rw [hxe] at hx; exact hx.elim
    rintro _ s3 ⟨σ3, H3, I4, l3, q3⟩
    refine seg_bind_wrap ?_
    simp only [List.forIn_nil]
    refine wpAny_pure ?_
    simp only [if_true]
    have hyo : ∀ v, yieldOut Y.env v = yieldValue v := fun v => by simp only [yieldOut, hco, Bool.false_eq_true, if_false]
    simp only [hyo]
    rw [Sem.bind_eq_wrap', Sem.bind_eq_wrap', Sem.wrap_wrap, Sem.wrap_wrap]
    refine seg_wrap ?_
    rw [← hY]
    refine wpAny_mono (hel.run _ _ _ _ _ I4 q3) (fun y s4 h4 => ?_) fun e s' hx => by rw [hxe] at hx; exact hx.elim
    obtain ⟨r, H4, I5, rr, b, rfl, htr, hfa⟩ := h4
    obtain rfl : y = Value.bool (b ^^ neg) := rr
    have G4 : GInv3 Y a go fp tn W (i + 1) H4 s4 := by
      refine ⟨σ3, ps2, l3, hm2, T.keep (i + 1) s2.heap s4.heap ht2 fun b hb o e => ?_, I5⟩
      rw [← hm2] at hb
      obtain ⟨p, hp, rfl⟩ := List.mem_map.mp hb
      rw [(ho2 p hp).1] at e
      cases e
      exact (I5.pin p (List.mem_append_right _ (List.mem_cons_of_mem _ hp))).1
    refine seg_at (seg_yield rfl rfl rfl ⟨b, i + 1, H4, rfl, G4, hfa, fun hb s' o g e => ?_⟩)
    exact seg_again rfl (ih (i + 1) H4 s' s' (G4.woke o g e) (htr hb))
theorem seg_itStartC (hA : Aw.handled = none) (hY : Y.A = Aw.over (.compLoop (.GeneratorExp elt [⟨tg, iter, [], 0⟩] scope pos) 0 (.ref it) .none Y.env) []) (hco : Y.env.scope.isCoroutine = false) (hcl : ∀ x c, Y.env.cells.lookup x = some c → c ∉ fp) (hex : ∀ b ∈ fp, b ∈ Y.ex) (ha : a ∉ fp) (hpn : Y.pn = [])
    (hcalm : Y.calm = true) (hxe : Y.xe = fun _ _ => False) (T : Turn Y.prog Y.w Y.K tg J fp it tn) (hg : PG Y tg g) (hel : PE Y elt te) {n : Nat} {H : Hp} {s₀ s : Shared} (hG : GInv3 Y a go fp tn W 0 H s) (hr : rdC neg g te J W n 0 H Q) :
    Seg (model Y.prog Y.w) Aw (gEnd Y Q) (gProt3 neg Y a go fp tn W Q) n s₀ (.compStart (.GeneratorExp elt [⟨tg, iter, [], 0⟩] scope pos) 0 (.ref it) .none Y.env)
      ((model Y.prog Y.w).den (.compStart (.GeneratorExp elt [⟨tg, iter, [], 0⟩] scope pos) 0 (.ref it) .none Y.env)) [] s := by
  have again : Seg (model Y.prog Y.w) Aw (gEnd Y Q) (gProt3 neg Y a go fp tn W Q) n s₀ (.compStart (.GeneratorExp elt [⟨tg, iter, [], 0⟩] scope pos) 0 (.ref it) .none Y.env) (.pure (.again (.compLoop (.GeneratorExp elt [⟨tg, iter, [], 0⟩] scope pos) 0 (.ref it) .none Y.env))) [] s :=
    seg_again rfl (seg_itLoopC hA hY hco hcl hex ha hpn hcalm hxe T hg hel n 0 H s₀ s hG hr)
  obtain ⟨σ, ps, l, hm, ht, I⟩ := hG
  show Seg _ Aw _ _ _ s₀ _ ((compStart _ 0 (.ref it) .none Y.env).onRaise (leaving Y.env)) [] s
  unfold compStart
  rw [Sem.onRaise_eq_wrap]
  apply seg_bind_wrap (m := ask)
  apply wpAny_askSetting
  split
  · exact again
  · apply seg_bind_wrap
    apply wpAny_rule
    apply seg_bind_wrap
    apply wpAny_standAt
    apply seg_bind_wrap
    exact T.self _ 0 s _ _ ht again
end
theorem all_loopC {Y : Cx} {A : Around} {a : Addr} {fp : List Addr} {tn : Nat → Heap → Prop} {W : L2.St → Prop} {go : Obj} {g : Nat} {R : Result → Shared → Prop} {Q : Bool → Hp → Prop} (hh : A.handled = none) (hd : A.depth < recursionLimit) (G : GenO go g)
    (fin : ∀ b σ H s, Inv Y [] σ H s → Q b H → R (.ok (.ret (.bool (b ^^ false)))) s) :
    ∀ (n : Nat) (s : Shared), s.heap.get? a = some go → s.heap.NoLimit → (∃ gs, s.gens[g]? = some gs ∧ gs.Goes (model Y.prog Y.w) A.in1.in1 (gEnd Y Q) (gProt3 false Y a go fp tn W Q) n (.send .none) (s.setGen g .running)) →
      codeAny (model Y.prog Y.w) A (.builtin "all.loop" ⟨[.ref a], []⟩) R s := by
  intro n
  induction n with
  | zero =>
    intro s ha hl ⟨gs, hgs, hgo⟩
    apply codeAny_builtin F.entry_all_loop
    rw [Around.under_plainId F.plain_all_loop _]
    show wpAny _ A.in1 (pyNext (.ref a) >>= _) _ _ s
    apply wpAny_bind
    apply next_genG (A := A.in1) (F := gDone Y Q) (Er := fun _ _ => False) hh hl hd (G.at ha) hgs hgo
    · intro v s1 gs' hb hv
      obtain ⟨b, i, H, rfl, hG, hf, ht⟩ := hv
      cases b with
      | true =>
        obtain ⟨_, _, _, _, _, J⟩ := hG
        exact False.elim (ht rfl s1 rfl J.bare rfl)
      | false =>
        obtain ⟨σ, io, _, _, _, J⟩ := hG
        apply wpAny_bind
        apply wpAny_holding
        apply wpAny_truthy_bool
        apply wpAny_bind
        apply wpAny_letGo
        show wpAny _ _ (rule _ >>= _) _ _ _
        apply wpAny_bind
        apply wpAny_rule
        apply wpAny_pure
        exact fin false σ H _ (inv_gens (J.pins_of fun p hp => by simp at hp) rfl (allBare_setGen J.bare hb) fun _ _ e => e) (hf rfl)
    · intro s1 hp h' hk
      obtain ⟨σ, H, J, q⟩ := hp
      show wpAny _ _ (rule _ >>= _) _ _ _
      apply wpAny_bind
      apply wpAny_rule
      apply wpAny_pure
      exact fin true σ H _ (inv_gens J rfl (allBare_setGen J.bare rfl) hk) q
    · intro e s1 he
      exact he.elim
  | succ n ih =>
    intro s ha hl ⟨gs, hgs, hgo⟩
    have hgl : g < s.gens.size := (Array.getElem?_eq_some_iff.mp hgs).1
    apply codeAny_builtin F.entry_all_loop
    rw [Around.under_plainId F.plain_all_loop _]
    show wpAny _ A.in1 (pyNext (.ref a) >>= _) _ _ s
    apply wpAny_bind
    apply wpAny_gsz (n := g + 1) hgl
    apply next_genG (A := A.in1) (F := gDone Y Q) (Er := fun _ _ => False) hh hl hd (G.at ha) hgs hgo
    · intro v s1 gs' hb hv hsz
      obtain ⟨b, i, H, rfl, hG, hf, ht⟩ := hv
      have hG' := hG
      obtain ⟨σ, io, _, _, _, J⟩ := hG'
      have pa := J.pin (a, go) (List.mem_append_right _ (by simp))
      apply wpAny_bind
      apply wpAny_holding
      apply wpAny_truthy_bool
      apply wpAny_bind
      apply wpAny_letGo
      cases b with
      | false =>
        show wpAny _ _ (rule _ >>= _) _ _ _
        apply wpAny_bind
        apply wpAny_rule
        apply wpAny_pure
        exact fin false σ H _ (inv_gens (J.pins_of fun p hp => by simp at hp) rfl (allBare_setGen J.bare hb) fun _ _ e => e) (hf rfl)
      | true =>
        simp only [Bool.xor_false, if_true]
        have hsz1 : g < s1.gens.size := by
          have q : (s1.setGen g gs').gens.size = s1.gens.size := setGen_size _ _ _
          have : g + 1 ≤ (s1.setGen g gs').gens.size := hsz
          omega
        refine wpAny_pure ⟨plainId_quiet F.plain_all_loop _, ih (s1.setGen g gs') pa.1 J.nolimit ⟨gs', setGen_at hsz1, ?_⟩⟩
        exact ht rfl _ rfl (allBare_setGen (s := s1.setGen g gs') (allBare_setGen J.bare hb) rfl) rfl
    · intro s1 hp h' hk hsz
      obtain ⟨σ, H, J, q⟩ := hp
      show wpAny _ _ (rule _ >>= _) _ _ _
      apply wpAny_bind
      apply wpAny_rule
      apply wpAny_pure
      exact fin true σ H _ (inv_gens J rfl (allBare_setGen J.bare rfl) hk) q
    · intro e s1 he
      exact he.elim

theorem any_loopC {Y : Cx} {A : Around} {a : Addr} {fp : List Addr} {tn : Nat → Heap → Prop} {W : L2.St → Prop} {go : Obj} {g : Nat} {R : Result → Shared → Prop} {Q : Bool → Hp → Prop} (hh : A.handled = none) (hd : A.depth < recursionLimit) (G : GenO go g)
    (fin : ∀ b σ H s, Inv Y [] σ H s → Q b H → R (.ok (.ret (.bool (b ^^ true)))) s) :
    ∀ (n : Nat) (s : Shared), s.heap.get? a = some go → s.heap.NoLimit → (∃ gs, s.gens[g]? = some gs ∧ gs.Goes (model Y.prog Y.w) A.in1.in1 (gEnd Y Q) (gProt3 true Y a go fp tn W Q) n (.send .none) (s.setGen g .running)) →
      codeAny (model Y.prog Y.w) A (.builtin "any.loop" ⟨[.ref a], []⟩) R s := by
  intro n
  induction n with
  | zero =>
    intro s ha hl ⟨gs, hgs, hgo⟩
    apply codeAny_builtin F.entry_any_loop
    rw [Around.under_plainId F.plain_any_loop _]
    show wpAny _ A.in1 (pyNext (.ref a) >>= _) _ _ s
    apply wpAny_bind
    apply next_genG (A := A.in1) (F := gDone Y Q) (Er := fun _ _ => False) hh hl hd (G.at ha) hgs hgo
    · intro v s1 gs' hb hv
      obtain ⟨b, i, H, rfl, hG, hf, ht⟩ := hv
      cases b with
      | true =>
        obtain ⟨_, _, _, _, _, J⟩ := hG
        exact False.elim (ht rfl s1 rfl J.bare rfl)
      | false =>
        obtain ⟨σ, io, _, _, _, J⟩ := hG
        apply wpAny_bind
        apply wpAny_holding
        apply wpAny_truthy_bool
        apply wpAny_bind
        apply wpAny_letGo
        show wpAny _ _ (rule _ >>= _) _ _ _
        apply wpAny_bind
        apply wpAny_rule
        apply wpAny_pure
        exact fin false σ H _ (inv_gens (J.pins_of fun p hp => by simp at hp) rfl (allBare_setGen J.bare hb) fun _ _ e => e) (hf rfl)
    · intro s1 hp h' hk
      obtain ⟨σ, H, J, q⟩ := hp
      show wpAny _ _ (rule _ >>= _) _ _ _
      apply wpAny_bind
      apply wpAny_rule
      apply wpAny_pure
      exact fin true σ H _ (inv_gens J rfl (allBare_setGen J.bare rfl) hk) q
    · intro e s1 he
      exact he.elim
  | succ n ih =>
    intro s ha hl ⟨gs, hgs, hgo⟩
    have hgl : g < s.gens.size := (Array.getElem?_eq_some_iff.mp hgs).1
    apply codeAny_builtin F.entry_any_loop
    rw [Around.under_plainId F.plain_any_loop _]
    show wpAny _ A.in1 (pyNext (.ref a) >>= _) _ _ s
    apply wpAny_bind
    apply wpAny_gsz (n := g + 1) hgl
    apply next_genG (A := A.in1) (F := gDone Y Q) (Er := fun _ _ => False) hh hl hd (G.at ha) hgs hgo
    · intro v s1 gs' hb hv hsz
      obtain ⟨b, i, H, rfl, hG, hf, ht⟩ := hv
      have hG' := hG
      obtain ⟨σ, io, _, _, _, J⟩ := hG'
      have pa := J.pin (a, go) (List.mem_append_right _ (by simp))
      apply wpAny_bind
      apply wpAny_holding
      apply wpAny_truthy_bool
      apply wpAny_bind
      apply wpAny_letGo
      cases b with
      | false =>
        show wpAny _ _ (rule _ >>= _) _ _ _
        apply wpAny_bind
        apply wpAny_rule
        apply wpAny_pure
        exact fin false σ H _ (inv_gens (J.pins_of fun p hp => by simp at hp) rfl (allBare_setGen J.bare hb) fun _ _ e => e) (hf rfl)
      | true =>
        simp only [Bool.true_xor, Bool.not_true, Bool.false_eq_true, if_false]
        have hsz1 : g < s1.gens.size := by
          have q : (s1.setGen g gs').gens.size = s1.gens.size := setGen_size _ _ _
          have : g + 1 ≤ (s1.setGen g gs').gens.size := hsz
          omega
        refine wpAny_pure ⟨plainId_quiet F.plain_any_loop _, ih (s1.setGen g gs') pa.1 J.nolimit ⟨gs', setGen_at hsz1, ?_⟩⟩
        exact ht rfl _ rfl (allBare_setGen (s := s1.setGen g gs') (allBare_setGen J.bare hb) rfl) rfl
    · intro s1 hp h' hk hsz
      obtain ⟨σ, H, J, q⟩ := hp
      show wpAny _ _ (rule _ >>= _) _ _ _
      apply wpAny_bind
      apply wpAny_rule
      apply wpAny_pure
      exact fin true σ H _ (inv_gens J rfl (allBare_setGen J.bare rfl) hk) q
    · intro e s1 he
      exact he.elim

section
variable {X : Cx} {pins : List (Addr × Obj)} {σ : L2.St} {H : Hp} {s : Shared}
/-- made, not begun; what its whole walk by all leaves -/
def ReadyC (neg : Bool) (W : L2.St → Prop) (X : Cx) (pins : List (Addr × Obj)) (σ : L2.St) (R : Nat → (Bool → Hp → Prop) → Prop) (n : Nat) (a : Addr) (s5 : Shared) : Prop :=
  ∃ (go : Obj) (g : Nat) (fp : List Addr) (tn : Nat → Heap → Prop), GenO go g ∧ s5.heap.get? a = some go ∧ s5.heap.NoLimit ∧ g < s5.gens.size ∧ ∀ Q : Bool → Hp → Prop, R n Q → ∃ (Y : Cx),
    Y.prog = X.prog ∧ Y.w = X.w ∧ (∃ gs, s5.gens[g]? = some gs ∧ gs.Goes (model Y.prog Y.w) X.A.in1.in1 (gEnd Y Q) (gProt3 neg Y a go fp tn W Q) n (.send .none) (s5.setGen g .running)) ∧
    ∀ b σ' H' s', Inv Y [] σ' H' s' → Q b H' → ∃ H'', Inv X pins σ H'' s' ∧ Q b H''
theorem gen_itC {c P : Addr} {elt iter tg : Expr} {xs ys : List Str} {js : List Nat} {neg : Bool} {gpos : Pos} {scope : Scope} {te : TE} {g : TG} {wi : TI} {k : Nat} {Q' : Value → Shared → Prop} {R : It → List V → Nat → Hp → Prop}
    (hr : Room (k + 1) X.A) (TB : GxR.TabB X.base X.mg c P) (hcode : X.env.code = .ref c) (S : ManyC X.env.scope scope xs ys) (hys : ∀ (i : Nat) (y : Str), ys[i]? = some y → ∃ j, js[i]? = some j ∧ X.N[j]? = some y) (jsl : js.length = ys.length) (hi : PI X tg iter wi)
    (hg : ∀ (s : Shared) (H : Hp) (cenv : Env) (B : Around) (fp : List Addr), cenv.scope = scope → PG (gzOf X xs ys s H cenv B fp) tg g)
    (hel : ∀ (s : Shared) (H : Hp) (C : Addr) (code : Value) (I : Addr) (fp : List Addr), Room k (X.A.in1.in1.over (.compLoop (.GeneratorExp elt [⟨tg, iter, [], 0⟩] scope gpos) 0 (.ref I) .none (genEnv scope (cloFrom X.env.cells scope.names []) C code builtinsNs X.env)) []) →
      PE (gzOf X xs ys s H (genEnv scope (cloFrom X.env.cells scope.names []) C code builtinsNs X.env) (X.A.in1.in1.over (.compLoop (.GeneratorExp elt [⟨tg, iter, [], 0⟩] scope gpos) 0 (.ref I) .none (genEnv scope (cloFrom X.env.cells scope.names []) C code builtinsNs X.env)) []) fp) elt te)
    (hs : ∀ v, genFold iter X.env v = pure v) (I0 : Inv X pins σ H s)
    (h : wi σ H fun J H1 => GxR.TabG H1 P ∧ ∃ caps : List V, caps.length = js.length ∧ (∀ (i j : Nat) (v : V), caps[i]? = some v → js[i]? = some j → σ[j]? = some (some v)) ∧ ∀ H2, GxR.Tabbed P H1 H2 → ∃ n, R J caps n H2)
    (hQ : ∀ J caps n H2 a s5, R J caps n H2 → ReadyC neg (SlC (xs.length + 1) caps) X pins σ (fun n Q => rdC neg g te J (SlC (xs.length + 1) caps) n 0 H2 Q) n a s5 → Q' (.ref a) s5) :
    wpAny (model X.prog X.w) X.A (eval (.GeneratorExp elt [⟨tg, iter, [], 0⟩] scope gpos) X.env) Q' X.xe s := by
  have hfr : ∀ y ∈ scope.names, y.2 = .free → ∃ c, X.env.cells.lookup y.1 = some c := fun y hy e => by
    rcases S.free y hy e with z | z
    · exact I0.ok.has _ (.inl z)
    · exact I0.ok.has _ (.inr z)
  have hcl : closureFor scope X.env = pure (cloFrom X.env.cells scope.names []) := closure_ok hfr
  have cm : ∀ {y c}, (cloFrom X.env.cells scope.names []).lookup y = some c → X.env.cells.lookup y = some c := fun {y c} e => by
    rcases cloFrom_mem (PySem.mem_of_lookup e) with hm | ⟨h1, h2⟩
    · cases hm
    · obtain ⟨c1, hc⟩ := hfr _ h1 rfl
      replace hc : X.env.cells.lookup y = some c1 := hc
      have e2 : c = c1 := by
        rw [h2, hc] <;> rfl
      rw [e2]; exact hc
  have look : ∀ {y}, scope.names.lookup y = some .free → ∃ c, (cloFrom X.env.cells scope.names []).lookup y = some c := fun {y} hl =>
    mem_lookup (cloFrom_has (cells := X.env.cells) (acc := []) (show (y, NameKind.free) ∈ scope.names from PySem.mem_of_lookup hl))
  have hroom : X.A.depth < recursionLimit := by
    have := hr.dp
    omega
  apply wpAny_GeneratorExp_make S.co hcl S.cell S.dot S.kind hroom ?_ hs
  refine wpAny_mono (hi.run pins s σ H _ I0 h) (fun v s0 w0 => wpAny_mono w0 ?_ fun _ _ z => z) fun _ _ z => z
  rintro _ s1 ⟨it, fp, tn, J, H1, rfl, I1, T, st, hf, ⟨tb, hP, ht⟩, caps, capl, capv, q1⟩
  refine ⟨I1.nolimit, ?_⟩
  have tabS : s1.heap.get? P = some { cls := .none, data := .fields tb } := I1.hok P _ hP
  have Plt : P < s1.heap.objs.size := Heap.lt_size tabS
  refine gcode (s2 := s1) hcode (TB.code.keeps fun b u e => I1.bk b u e) tabS ht fun code h3 n3 tb3 hx hsz hP3 hmore ht3 => ?_
  obtain ⟨bm, ob, e1, e2, e3, e4, e5, e6, e7, e8⟩ := TB.bm
  have cP : cStatics ≠ P := fun e => by
    obtain ⟨_, hns, _⟩ := I1.nolimit
    obtain ⟨o', es, ep, ho', hd', _⟩ := hns
    rw [e, tabS] at ho'
    cases ho'
    cases hd'
  apply wpAny_builtinsFor (m := X.mg) (by rw [I1.ok.glob]; exact (I1.mod.glob.keeps I1.bk).extBut hx TB.gP) e1 e2 (hx _ _ e4 (I1.bk _ _ e5)) e6 e7 e8
  intro h5 hns hsb
  obtain ⟨more, em⟩ := hmore
  subst em
  have I4 := GxR.inv_tab (more := more) (h' := h3) (g' := s1.gens) (d' := s1.drawn) (t' := n3) I1 hP hx hP3 I1.bare
  generalize hgo : ({ cls := .type "generator", data := .fields #[.int s1.gens.size 0, .str "<genexpr>" (n3 + 1), .str (X.env.qual ++ "<genexpr>") (n3 + 1 + 1)] } : Obj) = go
  have GO : GenO go s1.gens.size := by
    subst hgo
    exact ⟨rfl, ⟨_, _, rfl⟩, rfl⟩
  have k5 : ∀ b u, h3.get? b = some u → h5.get? b = some u := fun b u e => hsb.extBut b u (Nat.ne_of_lt (Heap.lt_size e)) (Heap.get?_push_of_some _ e)
  have k6 : ∀ b u, h3.get? b = some u → (h5.push go).get? b = some u := fun b u e => Heap.get?_push_of_some _ (k5 b u e)
  have sz5 : h5.objs.size = h3.objs.size + 1 := by rw [hsb.1, Heap.size_push]
  have hga : (h5.push go).get? h5.objs.size = some go := by
    subst hgo
    exact Heap.get?_push_size _ rfl
  have god : ∀ v, go.data ≠ .cell v := fun v q => by
    obtain ⟨nm, qn, d⟩ := GO.data
    rw [d] at q
    cases q
  -- the walked objects
  have fpP : ∀ b ∈ fp, b ≠ P := fun b hb z => by
    have := (hf b hb).1
    rw [z, hP] at this
    cases this
  have lt1 : ∀ b ∈ fp, b < s1.heap.objs.size := fun b hb => by
    obtain ⟨o, e, _⟩ := T.obj 0 s1.heap st b hb
    exact Heap.lt_size e
  have k3 : ∀ b ∈ fp, ∀ o, s1.heap.get? b = some o → h3.get? b = some o := fun b hb o e => hx b o (fpP b hb) e
  have lt3 : ∀ b ∈ fp, b < h3.objs.size := fun b hb => by
    obtain ⟨o, e, _⟩ := T.obj 0 s1.heap st b hb
    exact Heap.lt_size (k3 b hb o e)
  have none2 : ∀ b ∈ fp, (upd H1 P (.tbl (tb ++ more))) b = none := fun b hb => by
    rw [upd_ne (fpP b hb)]
    exact (hf b hb).1
  have nst : ∀ b ∈ fp, b ∉ frs X.stack := fun b hb hm => by
    rcases List.mem_cons.mp (I1.stkSub b hm) with z | z
    · exact (hf b hb).2.1 z
    · exact (hf b hb).2.2.1 z
  have nstN : ∀ b, h3.objs.size ≤ b → b ∉ frs X.stack := fun b hb hm => by
    rcases List.mem_cons.mp (I4.stkSub b hm) with z | z
    · rw [z] at hb
      exact absurd (Nat.lt_of_lt_of_le I4.lt hb) (Nat.lt_irrefl _)
    · exact I4.nofs hb z
  have st3 : tn 0 h3 := T.keep 0 s1.heap h3 st k3
  have st6 : tn 0 (h5.push go) := T.keep 0 h3 (h5.push go) st3 fun b _ o e => k6 b o e
  obtain ⟨ps, hm, ho⟩ := objs_of (T.obj 0 _ st6)
  have aN : h5.objs.size ∉ fp := fun z => by
    have q : h5.objs.size < h3.objs.size := lt3 _ z
    rw [sz5] at q
    exact Nat.not_succ_lt_self q
  obtain ⟨n, qn⟩ := q1 _ ⟨⟨_, upd_same, ht3⟩, fun b hb => upd_ne hb⟩
  refine hQ J caps n _ _ _ qn ⟨go, s1.gens.size, fp, tn, GO, hga, I4.nolimit.keeps k6, by show _ < (s1.gens.push _).size; rw [Array.size_push]; exact Nat.lt_succ_self _, fun Q hrd => ?_⟩
  have KY : (gzOf X xs ys { s1 with heap := h3, gens := s1.gens, drawn := s1.drawn, toks := n3 } (upd H1 P (.tbl (tb ++ more))) (genEnv scope (cloFrom X.env.cells scope.names []) h3.objs.size code builtinsNs X.env)
      (X.A.in1.in1.over (.compLoop (.GeneratorExp elt [⟨tg, iter, [], 0⟩] scope gpos) 0 (.ref it) .none (genEnv scope (cloFrom X.env.cells scope.names []) h3.objs.size code builtinsNs X.env)) []) fp).Ok := by
    refine ⟨I4.ok.mod, S.kind, I4.ok.glob, rfl, Nat.le_refl _, fun y z c e1 e2 => I4.ok.inj y z c (cm e1) (cm e2), fun y hy => ?_, fun y c z _ => absurd (show false = true from z) (by decide), fun _ => hr.hd, envs_loopI I4.ok.frames, .inr ⟨rfl, rfl⟩, fun b hb => ⟨Nat.ne_of_lt (lt3 b hb), fun y c e => (hf b hb).2.2.2.2.1 y c (cm e)⟩, fun b o e => I4.bs b o e, Nat.le_trans I4.ok.bsz I4.sz, fun b o e hb => ?_, fun b hb => nst b hb, I4.stack, I4.stkFree⟩
    · have hy' : scope.names.lookup y = some .cell ∨ scope.names.lookup y = some .free := hy
      rcases hy' with z | z
      · exact absurd rfl (S.cell _ (PySem.mem_of_lookup z))
      · exact look z
    · rcases (hf b hb).2.2.2.1 with z | z
      · exact I1.ok.noex b o e z
      · exact absurd (Nat.lt_of_lt_of_le (Heap.lt_size e) (Nat.le_trans I1.ok.bsz z)) (Nat.lt_irrefl _)
  refine ⟨gzOf X xs ys { s1 with heap := h3, gens := s1.gens, drawn := s1.drawn, toks := n3 } (upd H1 P (.tbl (tb ++ more))) (genEnv scope (cloFrom X.env.cells scope.names []) h3.objs.size code builtinsNs X.env)
      (X.A.in1.in1.over (.compLoop (.GeneratorExp elt [⟨tg, iter, [], 0⟩] scope gpos) 0 (.ref it) .none (genEnv scope (cloFrom X.env.cells scope.names []) h3.objs.size code builtinsNs X.env)) []) fp, rfl, rfl,
    ⟨_, Array.getElem?_push_size .., rfl, seg_itStartC (neg := neg) (W := SlC (xs.length + 1) caps) (Aw := X.A.in1.in1) hr.hd rfl S.co (by intro x c e z; exact (hf c z).2.2.2.2.1 x c (cm e) rfl) (fun b hb => hb) aN rfl rfl rfl T (hg _ _ _ _ _ rfl) (hel _ _ _ _ _ _ (room_loopI hr)) ⟨List.replicate (xs.length + 1) none ++ caps.map some, ps, ⟨by rw [List.length_append, List.length_replicate, List.length_map], rfl, fun i v hv => by rw [List.getElem?_append_right (by rw [List.length_replicate]; omega), List.length_replicate, Nat.add_sub_cancel_left, List.getElem?_map, hv]; rfl⟩, hm, st6, ?_⟩ hrd⟩,
    fun b σ' H' s' J q => ⟨H', I4.call' (ch := fp) J.os J.base J.hok J.bare fun b hb => ⟨(hf b hb).2.2.2.1, (hf b hb).2.1, (hf b hb).2.2.2.2.1, (hf b hb).2.2.2.2.2⟩, q⟩⟩
  refine ⟨KY, rfl, allBare_setGen (AllBare.push I1.bare rfl) rfl, Un.kept k6, ⟨_, hns.push _, fun i y v h1 h2 _ => ?_⟩, fun y c e => ?_, I4.hok.fresh (Nat.le_refl _), fun y c e => I4.freeC y c (cm e), fun p hp => ?_, I4.hok.kept k6, ?_⟩
  · replace h2 : (List.replicate (xs.length + 1) (none : Option V) ++ caps.map some)[i]? = some (some v) := h2
    replace h1 : ((".0" : Str) :: (xs ++ ys))[i]? = some y := h1
    by_cases c : i < xs.length + 1
    · rw [List.getElem?_append_left (by rw [List.length_replicate]; exact c), List.getElem?_replicate] at h2
      split at h2 <;> cases h2
    · rw [List.getElem?_append_right (by rw [List.length_replicate]; omega), List.length_replicate, List.getElem?_map] at h2
      obtain ⟨v', hv, e⟩ := Option.map_eq_some_iff.mp h2
      obtain rfl : v' = v := Option.some.inj e
      obtain ⟨i', rfl⟩ : ∃ i', i = (xs.length + 1) + i' := ⟨i - (xs.length + 1), by omega⟩
      rw [Nat.add_sub_cancel_left] at hv
      have hy : ys[i']? = some y := by
        rw [show xs.length + 1 + i' = (xs.length + i') + 1 by omega, List.getElem?_cons_succ, List.getElem?_append_right (by omega), Nat.add_sub_cancel_left] at h1
        exact h1
      obtain ⟨j, hj, hN⟩ := hys i' y hy
      have hfree := S.capt y (List.mem_of_getElem? hy)
      have hv2 : Vis X.env.scope y := (S.free _ (PySem.mem_of_lookup hfree) rfl).elim (fun k => .inr (.inl k)) (fun k => .inr (.inr k))
      obtain ⟨m, hn, hl⟩ := I4.loc
      obtain ⟨w', r, q⟩ := hl j y v' hN (capv i' j v' hv hj) hv2
      obtain ⟨c2, h2⟩ := look hfree
      refine ⟨w', r, .inr ⟨.inr hfree, c2, h2, ?_⟩⟩
      have c1 := cm h2
      rcases q with ⟨k', _⟩ | ⟨_, c3, e', ⟨o, z1, z2⟩⟩
      · have k' : X.env.scope.names.lookup y = some .local := k'
        rcases S.free _ (PySem.mem_of_lookup hfree) rfl with k2 | k2 <;> rw [show X.env.scope.names.lookup y = _ from k2] at k' <;> cases k'
      · rw [c1] at e'
        cases e'
        exact ⟨o, k6 _ _ z1, z2⟩
  · obtain ⟨w', ⟨o, z1, z2⟩⟩ := I4.cell y c (cm e)
    exact ⟨w', ⟨o, k6 _ _ z1, z2⟩⟩
  · rcases List.mem_cons.mp (show p ∈ (h5.objs.size, go) :: ps from hp) with rfl | hp
    · exact ⟨hga, I4.hok.fresh (show h3.objs.size ≤ h5.objs.size by omega), (by show h5.objs.size ≠ h3.objs.size; omega), nstN _ (show h3.objs.size ≤ h5.objs.size by omega), god⟩
    · have hb : p.1 ∈ fp := hm ▸ List.mem_map.mpr ⟨p, hp, rfl⟩
      exact ⟨(ho p hp).1, none2 _ hb, Nat.ne_of_lt (lt3 _ hb), nst _ hb, (ho p hp).2⟩
  · show (List.replicate (xs.length + 1) (none : Option V) ++ caps.map some).length = ((".0" : Str) :: (xs ++ ys)).length
    rw [List.length_append, List.length_replicate, List.length_map, List.length_cons, List.length_append, capl, jsl]
    omega
end
/-- all(e for .. in ..), e with captured names: the def's table may have grown when the first is asked -/
def tAllC (P : Addr) (g : TG) (te : TE) (wi : TI) (M : Nat) (js : List Nat) : TE := fun σ H Q => wi σ H fun J H1 => GxR.TabG H1 P ∧ ∃ caps : List V, caps.length = js.length ∧ (∀ (i j : Nat) (v : V), caps[i]? = some v → js[i]? = some j → σ[j]? = some (some v)) ∧ ∀ H2, GxR.Tabbed P H1 H2 → ∃ n, rdC false g te J (SlC M caps) n 0 H2 fun b H' => Q (.bl (b ^^ false)) H'

section
variable {X : Cx}
theorem pe_allC {c P : Addr} {elt iter tg : Expr} {xs ys : List Str} {js : List Nat} {p pos gpos : Pos} {scope : Scope} {te : TE} {g : TG} {wi : TI} {k : Nat}
    (hr : Room (k + 1) X.A) (hgl : Gl X "all") (hm : X.mg "all" = none) (TB : GxR.TabB X.base X.mg c P) (hcode : X.env.code = .ref c) (S : ManyC X.env.scope scope xs ys) (hys : ∀ (i : Nat) (y : Str), ys[i]? = some y → ∃ j, js[i]? = some j ∧ X.N[j]? = some y) (jsl : js.length = ys.length) (hi : PI X tg iter wi)
    (hg : ∀ (s : Shared) (H : Hp) (cenv : Env) (B : Around) (fp : List Addr), cenv.scope = scope → PG (gzOf X xs ys s H cenv B fp) tg g)
    (hel : ∀ (s : Shared) (H : Hp) (C : Addr) (code : Value) (I : Addr) (fp : List Addr), Room k (X.A.in1.in1.over (.compLoop (.GeneratorExp elt [⟨tg, iter, [], 0⟩] scope gpos) 0 (.ref I) .none (genEnv scope (cloFrom X.env.cells scope.names []) C code builtinsNs X.env)) []) →
      PE (gzOf X xs ys s H (genEnv scope (cloFrom X.env.cells scope.names []) C code builtinsNs X.env) (X.A.in1.in1.over (.compLoop (.GeneratorExp elt [⟨tg, iter, [], 0⟩] scope gpos) 0 (.ref I) .none (genEnv scope (cloFrom X.env.cells scope.names []) C code builtinsNs X.env)) []) fp) elt te)
    (hs : ∀ v, genFold iter X.env v = pure v) (hb : bootBuiltins "all" = some (.builtin "all") := by decide +kernel)
    (he : starEach [.GeneratorExp elt [⟨tg, iter, [], 0⟩] scope gpos] X.env = (false, eval (.GeneratorExp elt [⟨tg, iter, [], 0⟩] scope gpos) X.env) :: starEach [] X.env := by rfl) :
    PE X (.Call (.Name "all" p) [.GeneratorExp elt [⟨tg, iter, [], 0⟩] scope gpos] [] pos) (tAllC P g te wi (xs.length + 1) js) := by
  constructor
  intro pins s σ H Q I want
  have hroom : X.A.depth < recursionLimit := by
    have := hr.dp
    omega
  apply wpAny_Call_Name_kw (ld_blt I hgl hm hb ?_)
  apply PyProof.Rows.callWith_builtin1 ?_ he (by rfl)
  rw [he]
  show wpAny _ _ (spliced ((false, eval (.GeneratorExp elt [⟨tg, iter, [], 0⟩] scope gpos) X.env) :: backTo pos (starEach [] X.env))) _ _ s
  apply Calls.spliced_cons (gen_itC (neg := false) (R := fun J caps n H2 => rdC false g te J (SlC (xs.length + 1) caps) n 0 H2 fun b H' => Q (.bl (b ^^ false)) H') hr TB hcode S hys jsl hi hg hel hs I want ?_)
  intro J caps n H2 a s5 k5 ready
  obtain ⟨go, gi, fp, tn, GO, ha, lim, _, fin⟩ := ready
  obtain ⟨Y, eP, eW, hgo, back⟩ := fin _ k5
  apply Calls.spliced_nil
  apply call_function_tree F.kind_all F.plain_all F.entry_all (F.args_all1 _)
  unfold Builtin.«all»
  refine wpAny_bind (m := oneArg "all" _) (wpAny_pure ?_)
  refine wpAny_bind (wpAny_pyIter_gen (GO.at ha) ?_)
  refine wpAny_pure ⟨plainId_quiet F.plain_all_loop _, ?_⟩
  have key := all_loopC (Y := Y) (A := X.A) (fp := fp) (tn := tn) (W := SlC (xs.length + 1) caps) (R := fun r s' => match r with | .ok (.ret v) => EP X pins σ Q v s' | .ok _ => False | .error e => X.xe e s') hr.hd hroom GO (fun b σ' H' s' J q => by
    obtain ⟨H'', J2, q2⟩ := back b σ' H' s' J q
    exact ⟨.bl (b ^^ false), H'', J2, rfl, q2⟩) n s5 ha lim hgo
  rw [eP, eW] at key
  exact key
end
/-- any(e for .. in ..), e with captured names: the def's table may have grown when the first is asked -/
def tAnyC (P : Addr) (g : TG) (te : TE) (wi : TI) (M : Nat) (js : List Nat) : TE := fun σ H Q => wi σ H fun J H1 => GxR.TabG H1 P ∧ ∃ caps : List V, caps.length = js.length ∧ (∀ (i j : Nat) (v : V), caps[i]? = some v → js[i]? = some j → σ[j]? = some (some v)) ∧ ∀ H2, GxR.Tabbed P H1 H2 → ∃ n, rdC true g te J (SlC M caps) n 0 H2 fun b H' => Q (.bl (b ^^ true)) H'

section
variable {X : Cx}
theorem pe_anyC {c P : Addr} {elt iter tg : Expr} {xs ys : List Str} {js : List Nat} {p pos gpos : Pos} {scope : Scope} {te : TE} {g : TG} {wi : TI} {k : Nat}
    (hr : Room (k + 1) X.A) (hgl : Gl X "any") (hm : X.mg "any" = none) (TB : GxR.TabB X.base X.mg c P) (hcode : X.env.code = .ref c) (S : ManyC X.env.scope scope xs ys) (hys : ∀ (i : Nat) (y : Str), ys[i]? = some y → ∃ j, js[i]? = some j ∧ X.N[j]? = some y) (jsl : js.length = ys.length) (hi : PI X tg iter wi)
    (hg : ∀ (s : Shared) (H : Hp) (cenv : Env) (B : Around) (fp : List Addr), cenv.scope = scope → PG (gzOf X xs ys s H cenv B fp) tg g)
    (hel : ∀ (s : Shared) (H : Hp) (C : Addr) (code : Value) (I : Addr) (fp : List Addr), Room k (X.A.in1.in1.over (.compLoop (.GeneratorExp elt [⟨tg, iter, [], 0⟩] scope gpos) 0 (.ref I) .none (genEnv scope (cloFrom X.env.cells scope.names []) C code builtinsNs X.env)) []) →
      PE (gzOf X xs ys s H (genEnv scope (cloFrom X.env.cells scope.names []) C code builtinsNs X.env) (X.A.in1.in1.over (.compLoop (.GeneratorExp elt [⟨tg, iter, [], 0⟩] scope gpos) 0 (.ref I) .none (genEnv scope (cloFrom X.env.cells scope.names []) C code builtinsNs X.env)) []) fp) elt te)
    (hs : ∀ v, genFold iter X.env v = pure v) (hb : bootBuiltins "any" = some (.builtin "any") := by decide +kernel)
    (he : starEach [.GeneratorExp elt [⟨tg, iter, [], 0⟩] scope gpos] X.env = (false, eval (.GeneratorExp elt [⟨tg, iter, [], 0⟩] scope gpos) X.env) :: starEach [] X.env := by rfl) :
    PE X (.Call (.Name "any" p) [.GeneratorExp elt [⟨tg, iter, [], 0⟩] scope gpos] [] pos) (tAnyC P g te wi (xs.length + 1) js) := by
  constructor
  intro pins s σ H Q I want
  have hroom : X.A.depth < recursionLimit := by
    have := hr.dp
    omega
  apply wpAny_Call_Name_kw (ld_blt I hgl hm hb ?_)
  apply PyProof.Rows.callWith_builtin1 ?_ he (by rfl)
  rw [he]
  show wpAny _ _ (spliced ((false, eval (.GeneratorExp elt [⟨tg, iter, [], 0⟩] scope gpos) X.env) :: backTo pos (starEach [] X.env))) _ _ s
  apply Calls.spliced_cons (gen_itC (neg := true) (R := fun J caps n H2 => rdC true g te J (SlC (xs.length + 1) caps) n 0 H2 fun b H' => Q (.bl (b ^^ true)) H') hr TB hcode S hys jsl hi hg hel hs I want ?_)
  intro J caps n H2 a s5 k5 ready
  obtain ⟨go, gi, fp, tn, GO, ha, lim, _, fin⟩ := ready
  obtain ⟨Y, eP, eW, hgo, back⟩ := fin _ k5
  apply Calls.spliced_nil
  apply call_function_tree F.kind_any F.plain_any F.entry_any (F.args_any1 _)
  unfold Builtin.«any»
  refine wpAny_bind (m := oneArg "any" _) (wpAny_pure ?_)
  refine wpAny_bind (wpAny_pyIter_gen (GO.at ha) ?_)
  refine wpAny_pure ⟨plainId_quiet F.plain_any_loop _, ?_⟩
  have key := any_loopC (Y := Y) (A := X.A) (fp := fp) (tn := tn) (W := SlC (xs.length + 1) caps) (R := fun r s' => match r with | .ok (.ret v) => EP X pins σ Q v s' | .ok _ => False | .error e => X.xe e s') hr.hd hroom GO (fun b σ' H' s' J q => by
    obtain ⟨H'', J2, q2⟩ := back b σ' H' s' J q
    exact ⟨.bl (b ^^ true), H'', J2, rfl, q2⟩) n s5 ha lim hgo
  rw [eP, eW] at key
  exact key
end
def capB (N ys : List Str) (js : List Nat) : Bool := decide (js.length = ys.length) && (ys.zip js).all fun p => decide (N[p.2]? = some p.1)
theorem capt_by {N ys : List Str} {js : List Nat} (h : capB N ys js = true) : ∀ (i : Nat) (y : Str), ys[i]? = some y → ∃ j, js[i]? = some j ∧ N[j]? = some y := fun i y hy => by
  unfold capB at h
  rw [Bool.and_eq_true, decide_eq_true_eq, List.all_eq_true] at h
  obtain ⟨j, hj⟩ : ∃ j, js[i]? = some j := ⟨_, List.getElem?_eq_getElem (by have := (List.getElem?_eq_some_iff.mp hy).1; omega)⟩
  have := h.2 (y, j) (List.mem_of_getElem? (i := i) (by rw [List.getElem?_zip_eq_some]; exact ⟨hy, hj⟩))
  exact ⟨j, hj, of_decide_eq_true this⟩
section
variable {X : Cx}
theorem pg_oneC {x : Str} {ys : List Str} {s : Shared} {H : Hp} {cenv : Env} {B : Around} {fp : List Addr} {scope : Scope} {px : Pos} (ec : cenv.scope = scope) (nd : List.Nodup ((".0" : Str) :: ([x] ++ ys))) (h1 : scope.names.lookup x = some .local) :
    PG (gzOf X [x] ys s H cenv B fp) (.Name x px) (gName 1) := by
  subst ec
  exact pg_name (X := gzOf X [x] ys s H cenv B fp) (i := 1) nd rfl (Or.inl h1) (.inr h1)
end
end Jf
set_option Elab.async false
set_option linter.all false
set_option maxRecDepth 100000
set_option maxHeartbeats 4000000
namespace Jf
open PySem PySem.Spec PyProof.Rows L2 Evl
/-! ### the text -/
def topS (i : Nat) : Stmt := PySem.Challenge.pw_onenumber_k60_reserves_of_boxes.main.body.getD i (.Pass ⟨0, 0, 0, 0⟩)
abbrev s_is_whole : Stmt := topS 9
abbrev n_is_whole : List Str := ["value"]
abbrev s_is_number_below : Stmt := topS 10
abbrev n_is_number_below : List Str := ["value", "count"]
abbrev s_is_fraction : Stmt := topS 11
abbrev n_is_fraction : List Str := ["value", "top", "bottom"]
abbrev s_is_above_zero : Stmt := topS 12
abbrev n_is_above_zero : List Str := ["value"]
abbrev s_is_from_zero : Stmt := topS 13
abbrev n_is_from_zero : List Str := ["value"]
abbrev s_lowest : Stmt := topS 14
abbrev n_lowest : List Str := ["top", "bottom", "common"]
abbrev s_subtract : Stmt := topS 15
abbrev n_subtract : List Str := ["one", "other"]
abbrev s_multiply : Stmt := topS 16
abbrev n_multiply : List Str := ["one", "other"]
abbrev s_divide : Stmt := topS 17
abbrev n_divide : List Str := ["one", "other"]
abbrev s_add_all : Stmt := topS 18
abbrev n_add_all : List Str := ["fractions", "bottom", "_", "below", "top"]
abbrev s_is_below : Stmt := topS 19
abbrev n_is_below : List Str := ["one", "other"]
abbrev s_greatest : Stmt := topS 20
abbrev n_greatest : List Str := ["fractions", "best", "amount"]
abbrev s_negative : Stmt := topS 21
abbrev n_negative : List Str := ["amount"]
abbrev s_is_prize : Stmt := topS 26
abbrev n_is_prize : List Str := ["value"]
abbrev s_are_prizes : Stmt := topS 27
abbrev n_are_prizes : List Str := ["value", "entry", "chance", "_"]
abbrev s_is_box : Stmt := topS 28
abbrev n_is_box : List Str := ["value"]
abbrev s_is_boxes : Stmt := topS 29
abbrev n_is_boxes : List Str := ["value", "entry"]
abbrev s_require_box : Stmt := topS 30
abbrev n_require_box : List Str := ["value"]
abbrev s_require_boxes : Stmt := topS 31
abbrev n_require_boxes : List Str := ["value"]
abbrev s_is_seen : Stmt := topS 32
abbrev n_is_seen : List Str := ["boxes", "value", "entry", "box"]
abbrev s_require_boxes_and_seen : Stmt := topS 33
abbrev n_require_boxes_and_seen : List Str := ["boxes", "seen"]
abbrev s_worth_of_opening : Stmt := topS 34
abbrev n_worth_of_opening : List Str := ["boxes", "seen", "number", "known", "price", "prizes", "shares", "prize", "chance", "_", "behind"]
abbrev s_moves_of : Stmt := topS 35
abbrev n_moves_of : List Str := ["boxes", "seen", "known", "found", "number", "prize"]
abbrev s_best_worth_of : Stmt := topS 36
abbrev n_best_worth_of : List Str := ["boxes", "seen", "known", "_", "worth"]
abbrev s_reserve : Stmt := topS 37
abbrev n_reserve : List Str := ["box", "price", "prizes", "found", "_", "least", "above", "gained", "chance", "value"]
abbrev s_boxes_worth : Stmt := topS 38
abbrev n_boxes_worth : List Str := ["boxes"]
abbrev s_best_moves : Stmt := topS 39
abbrev n_best_moves : List Str := ["boxes", "seen", "moves", "best", "_", "worth", "move"]
abbrev s__law_pen : Stmt := topS 41
abbrev n__law_pen : List Str := ["_law_script"]
abbrev s__law_next : Stmt := topS 42
abbrev n__law_next : List Str := ["_law_pen_here", "_law_index", "_law_cell_here", "_law_some", "_law_more", "_law_high"]
abbrev s__law_draw : Stmt := topS 43
abbrev n__law_draw : List Str := ["_law_pen_here", "_law_under", "_law_digit"]
abbrev s__law_low : Stmt := topS 44
abbrev n__law_low : List Str := ["_law_top", "_law_bottom", "_law_one", "_law_other"]
abbrev s__law_add : Stmt := topS 45
abbrev n__law_add : List Str := ["_law_one", "_law_other"]
abbrev s__law_mul : Stmt := topS 46
abbrev n__law_mul : List Str := ["_law_one", "_law_other"]
abbrev s__law_less : Stmt := topS 47
abbrev n__law_less : List Str := ["_law_one", "_law_other"]
abbrev s__law_most : Stmt := topS 48
abbrev n__law_most : List Str := ["_law_some", "_law_found", "_law_one"]
abbrev s__law_box : Stmt := topS 49
abbrev n__law_box : List Str := ["_law_pen_here", "_law_price", "_law_worths", "_law_rows", "_law_chances", "_law_chance"]
abbrev s__law_over_mark : Stmt := topS 50
abbrev n__law_over_mark : List Str := ["_law_box_here", "_law_mark", "_law_found", "_law_chance", "_law_value"]
abbrev s__law_step : Stmt := topS 51
abbrev n__law_step : List Str := ["_law_boxes", "_law_marks", "_law_seen", "_law_worths", "_law_most_here", "_law_open_here", "_law_top", "_law_k"]
abbrev s__law_mean : Stmt := topS 52
abbrev n__law_mean : List Str := ["_law_boxes", "_law_marks", "_law_seen", "_law_move", "_law_price", "_law_prizes", "_law_found", "_law_place", "_law_chance", "_law_value", "_law_later"]
abbrev s_law : Stmt := topS 53
abbrev n_law : List Str := ["_law_script", "_law_pen_here", "_law_lap", "_law_boxes", "_law_marks", "_law_k", "_law_price", "_law_prizes", "_law_box_here", "_law_chance", "_law_value"]
theorem sc_is_whole : FnScope ["value"] ["value"] (defScope s_is_whole) := ⟨rfl, rfl, rfl, by decide +kernel, rfl, by decide +kernel, by decide +kernel⟩
theorem sc_is_number_below : FnScope ["value", "count"] ["value", "count"] (defScope s_is_number_below) := ⟨rfl, rfl, rfl, by decide +kernel, rfl, by decide +kernel, by decide +kernel⟩
theorem sc_is_fraction : FnScope ["value", "top", "bottom"] ["value"] (defScope s_is_fraction) := ⟨rfl, rfl, rfl, by decide +kernel, rfl, by decide +kernel, by decide +kernel⟩
theorem sc_is_above_zero : FnScope ["value"] ["value"] (defScope s_is_above_zero) := ⟨rfl, rfl, rfl, by decide +kernel, rfl, by decide +kernel, by decide +kernel⟩
theorem sc_is_from_zero : FnScope ["value"] ["value"] (defScope s_is_from_zero) := ⟨rfl, rfl, rfl, by decide +kernel, rfl, by decide +kernel, by decide +kernel⟩
theorem sc_lowest : FnScope ["top", "bottom", "common"] ["top", "bottom"] (defScope s_lowest) := ⟨rfl, rfl, rfl, by decide +kernel, rfl, by decide +kernel, by decide +kernel⟩
theorem sc_subtract : FnScope ["one", "other"] ["one", "other"] (defScope s_subtract) := ⟨rfl, rfl, rfl, by decide +kernel, rfl, by decide +kernel, by decide +kernel⟩
theorem sc_multiply : FnScope ["one", "other"] ["one", "other"] (defScope s_multiply) := ⟨rfl, rfl, rfl, by decide +kernel, rfl, by decide +kernel, by decide +kernel⟩
theorem sc_divide : FnScope ["one", "other"] ["one", "other"] (defScope s_divide) := ⟨rfl, rfl, rfl, by decide +kernel, rfl, by decide +kernel, by decide +kernel⟩
theorem sc_add_all : FnScope ["fractions", "bottom", "_", "below", "top"] ["fractions"] (defScope s_add_all) := ⟨rfl, rfl, rfl, by decide +kernel, rfl, by decide +kernel, by decide +kernel⟩
theorem sc_is_below : FnScope ["one", "other"] ["one", "other"] (defScope s_is_below) := ⟨rfl, rfl, rfl, by decide +kernel, rfl, by decide +kernel, by decide +kernel⟩
theorem sc_greatest : FnScope ["fractions", "best", "amount"] ["fractions"] (defScope s_greatest) := ⟨rfl, rfl, rfl, by decide +kernel, rfl, by decide +kernel, by decide +kernel⟩
theorem sc_negative : FnScope ["amount"] ["amount"] (defScope s_negative) := ⟨rfl, rfl, rfl, by decide +kernel, rfl, by decide +kernel, by decide +kernel⟩
theorem sc_is_prize : FnScope ["value"] ["value"] (defScope s_is_prize) := ⟨rfl, rfl, rfl, by decide +kernel, rfl, by decide +kernel, by decide +kernel⟩
theorem sc_are_prizes : FnScope ["value", "entry", "chance", "_"] ["value"] (defScope s_are_prizes) := ⟨rfl, rfl, rfl, by decide +kernel, rfl, by decide +kernel, by decide +kernel⟩
theorem sc_is_box : FnScope ["value"] ["value"] (defScope s_is_box) := ⟨rfl, rfl, rfl, by decide +kernel, rfl, by decide +kernel, by decide +kernel⟩
theorem sc_is_boxes : FnScope ["value", "entry"] ["value"] (defScope s_is_boxes) := ⟨rfl, rfl, rfl, by decide +kernel, rfl, by decide +kernel, by decide +kernel⟩
theorem sc_require_box : FnScope ["value"] ["value"] (defScope s_require_box) := ⟨rfl, rfl, rfl, by decide +kernel, rfl, by decide +kernel, by decide +kernel⟩
theorem sc_require_boxes : FnScope ["value"] ["value"] (defScope s_require_boxes) := ⟨rfl, rfl, rfl, by decide +kernel, rfl, by decide +kernel, by decide +kernel⟩
theorem sc_is_seen : FnScope ["boxes", "value", "entry", "box"] ["boxes", "value"] (defScope s_is_seen) := ⟨rfl, rfl, rfl, by decide +kernel, rfl, by decide +kernel, by decide +kernel⟩
theorem sc_require_boxes_and_seen : FnScope ["boxes", "seen"] ["boxes", "seen"] (defScope s_require_boxes_and_seen) := ⟨rfl, rfl, rfl, by decide +kernel, rfl, by decide +kernel, by decide +kernel⟩
theorem sc_worth_of_opening : FnScope ["boxes", "seen", "number", "known", "price", "prizes", "shares", "prize", "chance", "_", "behind"] ["boxes", "seen", "number", "known"] (defScope s_worth_of_opening) := ⟨rfl, rfl, rfl, by decide +kernel, rfl, by decide +kernel, by decide +kernel⟩
theorem sc_moves_of : FnScope ["boxes", "seen", "known", "found", "number", "prize"] ["boxes", "seen", "known"] (defScope s_moves_of) := ⟨rfl, rfl, rfl, by decide +kernel, rfl, by decide +kernel, by decide +kernel⟩
theorem sc_best_worth_of : FnScope ["boxes", "seen", "known", "_", "worth"] ["boxes", "seen", "known"] (defScope s_best_worth_of) := ⟨rfl, rfl, rfl, by decide +kernel, rfl, by decide +kernel, by decide +kernel⟩
theorem sc_reserve : FnScope ["box", "price", "prizes", "found", "_", "least", "above", "gained", "chance", "value"] ["box"] (defScope s_reserve) := ⟨rfl, rfl, rfl, by decide +kernel, rfl, by decide +kernel, by decide +kernel⟩
theorem sc_boxes_worth : FnScope ["boxes"] ["boxes"] (defScope s_boxes_worth) := ⟨rfl, rfl, rfl, by decide +kernel, rfl, by decide +kernel, by decide +kernel⟩
theorem sc_best_moves : FnScope ["boxes", "seen", "moves", "best", "_", "worth", "move"] ["boxes", "seen"] (defScope s_best_moves) := ⟨rfl, rfl, rfl, by decide +kernel, rfl, by decide +kernel, by decide +kernel⟩
theorem sc__law_pen : FnScope ["_law_script"] ["_law_script"] (defScope s__law_pen) := ⟨rfl, rfl, rfl, by decide +kernel, rfl, by decide +kernel, by decide +kernel⟩
theorem sc__law_next : FnScope ["_law_pen_here", "_law_index", "_law_cell_here", "_law_some", "_law_more", "_law_high"] ["_law_pen_here"] (defScope s__law_next) := ⟨rfl, rfl, rfl, by decide +kernel, rfl, by decide +kernel, by decide +kernel⟩
theorem sc__law_draw : FnScope ["_law_pen_here", "_law_under", "_law_digit"] ["_law_pen_here", "_law_under"] (defScope s__law_draw) := ⟨rfl, rfl, rfl, by decide +kernel, rfl, by decide +kernel, by decide +kernel⟩
theorem sc__law_low : FnScope ["_law_top", "_law_bottom", "_law_one", "_law_other"] ["_law_top", "_law_bottom"] (defScope s__law_low) := ⟨rfl, rfl, rfl, by decide +kernel, rfl, by decide +kernel, by decide +kernel⟩
theorem sc__law_add : FnScope ["_law_one", "_law_other"] ["_law_one", "_law_other"] (defScope s__law_add) := ⟨rfl, rfl, rfl, by decide +kernel, rfl, by decide +kernel, by decide +kernel⟩
theorem sc__law_mul : FnScope ["_law_one", "_law_other"] ["_law_one", "_law_other"] (defScope s__law_mul) := ⟨rfl, rfl, rfl, by decide +kernel, rfl, by decide +kernel, by decide +kernel⟩
theorem sc__law_less : FnScope ["_law_one", "_law_other"] ["_law_one", "_law_other"] (defScope s__law_less) := ⟨rfl, rfl, rfl, by decide +kernel, rfl, by decide +kernel, by decide +kernel⟩
theorem sc__law_most : FnScope ["_law_some", "_law_found", "_law_one"] ["_law_some"] (defScope s__law_most) := ⟨rfl, rfl, rfl, by decide +kernel, rfl, by decide +kernel, by decide +kernel⟩
theorem sc__law_box : FnScope ["_law_pen_here", "_law_price", "_law_worths", "_law_rows", "_law_chances", "_law_chance"] ["_law_pen_here"] (defScope s__law_box) := ⟨rfl, rfl, rfl, by decide +kernel, rfl, by decide +kernel, by decide +kernel⟩
theorem sc__law_over_mark : FnScope ["_law_box_here", "_law_mark", "_law_found", "_law_chance", "_law_value"] ["_law_box_here", "_law_mark"] (defScope s__law_over_mark) := ⟨rfl, rfl, rfl, by decide +kernel, rfl, by decide +kernel, by decide +kernel⟩
theorem sc__law_step : FnScope ["_law_boxes", "_law_marks", "_law_seen", "_law_worths", "_law_most_here", "_law_open_here", "_law_top", "_law_k"] ["_law_boxes", "_law_marks", "_law_seen"] (defScope s__law_step) := ⟨rfl, rfl, rfl, by decide +kernel, rfl, by decide +kernel, by decide +kernel⟩
theorem sc__law_mean : FnScope ["_law_boxes", "_law_marks", "_law_seen", "_law_move", "_law_price", "_law_prizes", "_law_found", "_law_place", "_law_chance", "_law_value", "_law_later"] ["_law_boxes", "_law_marks", "_law_seen"] (defScope s__law_mean) := ⟨rfl, rfl, rfl, by decide +kernel, rfl, by decide +kernel, by decide +kernel⟩
theorem sc_law : FnScope ["_law_script", "_law_pen_here", "_law_lap", "_law_boxes", "_law_marks", "_law_k", "_law_price", "_law_prizes", "_law_box_here", "_law_chance", "_law_value"] ["_law_script"] (defScope s_law) := ⟨rfl, rfl, rfl, by decide +kernel, rfl, by decide +kernel, by decide +kernel⟩
/-- what the top has written -/
structure Txt (K : PySem.W.Frag) (mg : Str → Option Value) where
  d_is_whole : FT K mg "is_whole" s_is_whole ["value"]
  d_is_number_below : FT K mg "is_number_below" s_is_number_below ["value", "count"]
  d_is_fraction : FT K mg "is_fraction" s_is_fraction ["value"]
  d_is_above_zero : FT K mg "is_above_zero" s_is_above_zero ["value"]
  d_is_from_zero : FT K mg "is_from_zero" s_is_from_zero ["value"]
  d_lowest : FT K mg "lowest" s_lowest ["top", "bottom"]
  d_subtract : FT K mg "subtract" s_subtract ["one", "other"]
  d_multiply : FT K mg "multiply" s_multiply ["one", "other"]
  d_divide : FT K mg "divide" s_divide ["one", "other"]
  d_add_all : FT K mg "add_all" s_add_all ["fractions"]
  d_is_below : FT K mg "is_below" s_is_below ["one", "other"]
  d_greatest : FT K mg "greatest" s_greatest ["fractions"]
  d_negative : FT K mg "negative" s_negative ["amount"]
  d_is_prize : FT K mg "is_prize" s_is_prize ["value"]
  d_are_prizes : FT K mg "are_prizes" s_are_prizes ["value"]
  d_is_box : FT K mg "is_box" s_is_box ["value"]
  d_is_boxes : FT K mg "is_boxes" s_is_boxes ["value"]
  d_require_box : FT K mg "require_box" s_require_box ["value"]
  d_require_boxes : FT K mg "require_boxes" s_require_boxes ["value"]
  d_is_seen : FT K mg "is_seen" s_is_seen ["boxes", "value"]
  d_require_boxes_and_seen : FT K mg "require_boxes_and_seen" s_require_boxes_and_seen ["boxes", "seen"]
  d_worth_of_opening : FT K mg "worth_of_opening" s_worth_of_opening ["boxes", "seen", "number", "known"]
  d_moves_of : FT K mg "moves_of" s_moves_of ["boxes", "seen", "known"]
  d_best_worth_of : FT K mg "best_worth_of" s_best_worth_of ["boxes", "seen", "known"]
  d_reserve : FT K mg "reserve" s_reserve ["box"]
  d_boxes_worth : FT K mg "boxes_worth" s_boxes_worth ["boxes"]
  d_best_moves : FT K mg "best_moves" s_best_moves ["boxes", "seen"]
  d__law_pen : FT K mg "_law_pen" s__law_pen ["_law_script"]
  d__law_next : FT K mg "_law_next" s__law_next ["_law_pen_here"]
  d__law_draw : FT K mg "_law_draw" s__law_draw ["_law_pen_here", "_law_under"]
  d__law_low : FT K mg "_law_low" s__law_low ["_law_top", "_law_bottom"]
  d__law_add : FT K mg "_law_add" s__law_add ["_law_one", "_law_other"]
  d__law_mul : FT K mg "_law_mul" s__law_mul ["_law_one", "_law_other"]
  d__law_less : FT K mg "_law_less" s__law_less ["_law_one", "_law_other"]
  d__law_most : FT K mg "_law_most" s__law_most ["_law_some"]
  d__law_box : FT K mg "_law_box" s__law_box ["_law_pen_here"]
  d__law_over_mark : FT K mg "_law_over_mark" s__law_over_mark ["_law_box_here", "_law_mark"]
  d__law_step : FT K mg "_law_step" s__law_step ["_law_boxes", "_law_marks", "_law_seen"]
  d__law_mean : FT K mg "_law_mean" s__law_mean ["_law_boxes", "_law_marks", "_law_seen"]
  d_law : FT K mg "law" s_law ["_law_script"]
  n_abs : mg "abs" = none
  n_all : mg "all" = none
  n_bool : mg "bool" = none
  n_enumerate : mg "enumerate" = none
  n_int : mg "int" = none
  n_isinstance : mg "isinstance" = none
  n_len : mg "len" = none
  n_list : mg "list" = none
  n_range : mg "range" = none
  n_sorted : mg "sorted" = none
  n_sum : mg "sum" = none
  n_tuple : mg "tuple" = none
  n_zip : mg "zip" = none
  n_gcd : mg "gcd" = some (.builtin "math.gcd")
  a_ZERO : Addr
  c_ZERO : mg "ZERO" = some (.ref a_ZERO)
  k_ZERO : ∃ (o : Obj) (its : Array Value) (n : Nat), K.lookup a_ZERO = some o ∧ o.cls = .type "tuple" ∧ o.data = .seq its n ∧ its.size ≤ sizeLine ∧ Vals [.int 0, .int 1] its.toList
  a_ONE : Addr
  c_ONE : mg "ONE" = some (.ref a_ONE)
  k_ONE : ∃ (o : Obj) (its : Array Value) (n : Nat), K.lookup a_ONE = some o ∧ o.cls = .type "tuple" ∧ o.data = .seq its n ∧ its.size ≤ sizeLine ∧ Vals [.int 1, .int 1] its.toList
  t_MOST_PRIZES : Tok
  c_MOST_PRIZES : mg "MOST_PRIZES" = some (.int 3 t_MOST_PRIZES)
  t_MOST_BOXES : Tok
  c_MOST_BOXES : mg "MOST_BOXES" = some (.int 3 t_MOST_BOXES)
  a_LEAVE : Addr
  c_LEAVE : mg "LEAVE" = some (.ref a_LEAVE)
  k_LEAVE : ∃ (o : Obj) (its : Array Value) (n : Nat), K.lookup a_LEAVE = some o ∧ o.cls = .type "tuple" ∧ o.data = .seq its n ∧ its.size ≤ sizeLine ∧ Vals [.str "leave"] its.toList
  c_add_all : Addr
  P_add_all : Addr
  h_add_all : d_add_all.fd.code = .ref c_add_all
  c_are_prizes : Addr
  P_are_prizes : Addr
  h_are_prizes : d_are_prizes.fd.code = .ref c_are_prizes
  c_is_boxes : Addr
  P_is_boxes : Addr
  h_is_boxes : d_is_boxes.fd.code = .ref c_is_boxes
  c_is_seen : Addr
  P_is_seen : Addr
  h_is_seen : d_is_seen.fd.code = .ref c_is_seen
/-! ### the law's own draws -/
/-- all but what stands at p is as it was -/
def ExB (p : Addr) (H H' : Hp) : Prop := ∀ b o, b ≠ p → H b = some o → H' b = some o
theorem ExB.refl (p : Addr) (H : Hp) : ExB p H H := fun _ _ _ h => h
theorem ExB.trans {p : Addr} {H H1 H2 : Hp} (a : ExB p H H1) (b : ExB p H1 H2) : ExB p H H2 := fun c o n h => b c o n (a c o n h)
theorem Ex.b {p : Addr} {H H1 : Hp} (a : Ex H H1) : ExB p H H1 := fun c o _ h => a c o h
theorem ExB.upd {p : Addr} {H H1 : Hp} {o : HO} (a : ExB p H H1) : ExB p H (upd H1 p o) := fun c o n h => by
  rw [upd_ne n]
  exact a c o n h
/-- the pen at p: its cells, its place, its rest -/
def Pen (H : Hp) (p a : Addr) (N : Nat) : Prop := ∃ (cs : List Int) (at_ vl : Int), H p = some (.lst [.ref a, .int at_, .int vl]) ∧ H a = some (.lst (cs.map V.int)) ∧ a ≠ p ∧ 0 ≤ at_ ∧ at_ ≤ N ∧ 0 ≤ vl ∧ cs.length ≤ 60
theorem Pen.ex {H H' : Hp} {p a : Addr} {N : Nat} (e : Ex H H') (h : Pen H p a N) : Pen H' p a N := by
  obtain ⟨cs, t, v, h1, h2, r⟩ := h
  exact ⟨cs, t, v, e _ _ h1, e _ _ h2, r⟩
theorem Pen.mono {H : Hp} {p a : Addr} {N M : Nat} (e : N ≤ M) (h : Pen H p a N) : Pen H p a M := by
  obtain ⟨cs, t, v, h1, h2, h3, h4, h5, r⟩ := h
  exact ⟨cs, t, v, h1, h2, h3, h4, by omega, r⟩
theorem Pen.hasP {H : Hp} {p a : Addr} {N : Nat} (h : Pen H p a N) : ∃ xs, H p = some (.lst xs) := by
  obtain ⟨cs, t, v, h1, _⟩ := h
  exact ⟨_, h1⟩
theorem Pen.hasC {H : Hp} {p a : Addr} {N : Nat} (h : Pen H p a N) : ∃ xs, H a = some (.lst xs) := by
  obtain ⟨cs, t, v, _, h1, _⟩ := h
  exact ⟨_, h1⟩
/-- a new or another object's store leaves it -/
theorem Pen.upd {H : Hp} {p a q : Addr} {N : Nat} {o : HO} (h : Pen H p a N) (h1 : q ≠ p) (h2 : q ≠ a) : Pen (upd H q o) p a N := by
  obtain ⟨cs, t, v, e1, e2, r⟩ := h
  exact ⟨cs, t, v, by rw [upd_ne h1.symm]; exact e1, by rw [upd_ne h2.symm]; exact e2, r⟩
/-- a tuple stays where a list changes -/
theorem tup_lst {K : PySem.W.Frag} {H H' : Hp} {p c : Addr} {xs ys : List V} (hp : H p = some (.lst xs)) (e : ExB p H H') (h : SqT K H c ys) : SqT K H' c ys := by
  rcases h with (h | ⟨o, h⟩) | h
  · exact .inl (.inl (e c _ (by rintro rfl; rw [hp] at h; cases h) h))
  · exact .inl (.inr ⟨o, e c _ (by rintro rfl; rw [hp] at h; cases h) h⟩)
  · exact .inr h
theorem Fr.lst {K : PySem.W.Frag} {H H' : Hp} {p : Addr} {xs : List V} {b : Nat} {q : Rat} {z : V} (hp : H p = some (.lst xs)) (e : ExB p H H') (h : Fr K b q z H) : Fr K b q z H' := by
  obtain ⟨c, rfl, h, x⟩ := h
  exact ⟨c, rfl, tup_lst hp e h, x⟩
/-- a way through a block, joined behind its first statement -/
theorem s_join {t u : TS} {D : Ends} {σ : L2.St} {H : Hp} (R : L2.St → Hp → Prop) (h1 : ∀ N : L2.St → Hp → Prop, (∀ σ H, R σ H → N σ H) → t { D with nx := N } σ H) (h2 : ∀ σ H, R σ H → u D σ H) : tSeq t u D σ H := h1 (u D) h2
theorem n_seq {t u : TS} {D : Ends} {σ : L2.St} {H : Hp} (h : t { D with nx := u D } σ H) : tSeq t u D σ H := h
theorem n_c {i : Nat} {v : V} {D : Ends} {σ : L2.St} {H : Hp} (h : D.nx (σ.set i (some v)) H) : tAsg (tC v) (gName i) D σ H := h
theorem atI_map {ms : List Int} {i : Int} (h0 : 0 ≤ i) (h : i < ms.length) : ∃ x, atI (ms.map V.int) i = some (.int x) := by
  obtain ⟨k, rfl⟩ : ∃ k : Nat, i = k := ⟨i.toNat, by omega⟩
  have hk : k < ms.length := by omega
  exact ⟨ms[k], atI_nat (by rw [List.getElem?_map, List.getElem?_eq_getElem hk]; rfl)⟩
theorem b64 {i : Int} (h0 : 0 ≤ i) (h : i < 18446744073709551616) : i.natAbs < 2 ^ 64 := by
  show i.natAbs < 18446744073709551616
  omega
theorem cut_map (ms : List Int) (lo hi : Option Int) : cutV (ms.map V.int) lo hi = ((ms.drop (HT.sIx ms.length 0 lo)).take (HT.sIx ms.length ms.length hi - HT.sIx ms.length 0 lo)).map V.int := by
  unfold cutV
  rw [List.length_map, ← List.map_drop, ← List.map_take]
theorem atI_at {xs : List V} {i : Int} (h0 : 0 ≤ i) (h : i < xs.length) : ∃ x, atI xs i = some x ∧ x ∈ xs ∧ xs[i.toNat]? = some x := by
  have hk : i.toNat < xs.length := by omega
  have e := List.getElem?_eq_getElem hk
  refine ⟨xs[i.toNat], ?_, List.getElem_mem hk, e⟩
  have := atI_nat e
  rwa [show ((i.toNat : Nat) : Int) = i by omega] at this
theorem n_name {i : Nat} {v : V} {σ : L2.St} {H : Hp} {N : L2.St → Hp → Prop} (h : N (σ.set i (some v)) H) : gName i v σ H N := h
theorem n_next {D : Ends} {σ : L2.St} {H : Hp} (h : D.nx σ H) : tNext D σ H := h
theorem dp_ints {K : PySem.W.Frag} {H : Hp} : ∀ cs : List Int, DpAll K H (cs.map V.int) (cs.map PyData.int)
  | [] => .nil
  | _ :: cs => .cons (.int _) (dp_ints cs)
theorem sh_ints (cs : List Int) : SeqAt.shaped (.list (cs.map PyData.int)) = true := by
  have h1 : ∀ cs : List Int, PyData.canLayAll0 (cs.map PyData.int) = true := fun cs => by
    induction cs with
    | nil => rfl
    | cons c cs ih => simp [PyData.canLayAll0, PyData.canLay0, ih]
  have h2 : ∀ cs : List Int, PyData.depthAll (cs.map PyData.int) = 0 := fun cs => by
    induction cs with
    | nil => rfl
    | cons c cs ih => simp [PyData.depthAll, PyData.depth, ih]
  unfold SeqAt.shaped
  rw [Bool.and_eq_true]
  refine ⟨by simpa [PyData.canLay0] using h1 cs, decide_eq_true ?_⟩
  show PyData.depthAll _ + 1 ≤ 64
  rw [h2]
  decide
section
variable {P : Program} {w : World} {K : PySem.W.Frag} {mg : Str → Option Value} {base : Heap}
def spPen (K : PySem.W.Frag) : Sp := fun vs H Q _ => ∃ (a : Addr) (ns : List Int), vs = [.ref a] ∧ SqL K H a (ns.map V.int) ∧ ns.length ≤ 63 ∧ ∀ p c H', Ex H H' → Pen H' p c 0 → H p = none → Q (.ref p) H'
theorem ok__law_pen (T : Txt K mg) : FnOk P w K mg base CX0 1 T.d__law_pen.a T.d__law_pen.fd ["_law_script"] (spPen K) := by
  refine T.d__law_pen.F.ok sc__law_pen (fun vs H Q E h => ?_) (fun cdv A outer s H vs Q E hr h => ?_)
  · obtain ⟨a, ns, rfl, _⟩ := h
    rfl
  · obtain ⟨a, ns, rfl, hS, hl, k⟩ := h
    refine ⟨_, (pss_one (ps_ret (pe_lst (pa_cons (pe_callTy call_list_of (by rfl) T.n_list (by decide +kernel) (pa_cons (pe_slice sl_list (pv 0) po_none (po_some pe_int)) pa_nil)) (pa_cons pe_int (pa_cons pe_int pa_nil)))))), ?_⟩
    have e60 : HT.sIx ns.length ns.length (some 60) = min 60 ns.length := HT.sIx_nat ns.length ns.length 60
    have cc : cutV (ns.map V.int) none (some 60) = (ns.take (min 60 ns.length)).map V.int := by
      rw [cut_map, HT.sIx_none, e60, List.drop_zero, Nat.sub_zero]
    refine ⟨.ref a, rfl, 60, rfl, a, _, rfl, hS, fun p1 f1 => ?_⟩
    rw [cc]
    have x1 := Ex.new (o := .lst ((ns.take (min 60 ns.length)).map V.int)) f1
    refine ⟨p1, _, rfl, .inl (SqL.of upd_same), fun p2 f2 => ?_⟩
    have x2 := Ex.new (o := .lst ((ns.take (min 60 ns.length)).map V.int)) f2
    refine ⟨by show 3 ≤ sizeLine; decide, fun p3 f3 => ?_⟩
    have x3 := Ex.new (o := .lst [.ref p2, .int 0, .int 0]) f3
    have n23 : p2 ≠ p3 := fun z => by
      rw [← z, upd_same] at f3
      cases f3
    exact k p3 p2 _ ((x1.trans x2).trans x3) ⟨_, 0, 0, upd_same, x3 _ _ upd_same, n23, by decide, by decide, by decide, by rw [List.length_take]; omega⟩ (fresh_back (x1.trans x2) f3)
def spNext (K : PySem.W.Frag) : Sp := fun vs H Q _ => ∃ (p a : Addr) (cs : List Int) (t v : Int), vs = [.ref p] ∧ H p = some (.lst [.ref a, .int t, .int v]) ∧ H a = some (.lst (cs.map V.int)) ∧ a ≠ p ∧ 0 ≤ t ∧ t ≤ 99990 ∧ cs.length ≤ 60 ∧
  ∀ (r : Int) (H' : Hp), 0 ≤ r → ExB p H H' → H' p = some (.lst [.ref a, .int (t + 1), .int v]) → Q (.int r) H'
theorem ok__law_next (T : Txt K mg) : FnOk P w K mg base CX0 1 T.d__law_next.a T.d__law_next.fd ["_law_pen_here"] (spNext K) := by
  refine T.d__law_next.F.ok sc__law_next (fun vs H Q E h => ?_) (fun cdv A outer s H vs Q E hr h => ?_)
  · obtain ⟨p, a, cs, t, v, rfl, _⟩ := h
    rfl
  · obtain ⟨p, a, cs, t, v, rfl, hp, ha, hne, t0, t1, hl, k⟩ := h
    refine ⟨_, (pss_cons (ps_set (i := 1) sc__law_next.nd rfl (Or.inl rfl) (pe_ix ix_list (pv 0) pe_int (fun _ _ => rfl)))
      (pss_cons (ps_asg (pe_op op_add (pv 1) pe_int) (pg_sub (pv 0) pe_int set_list))
      (pss_cons (ps_set (i := 2) sc__law_next.nd rfl (Or.inl rfl) (pe_op op_add (pe_op op_mulW (pv 1) pe_int) pe_int))
      (pss_cons (ps_if (pt_cmpR (op_neD hr.units) (pe_ix ix_list (pv 0) pe_int (fun _ _ => rfl)) (pe_lst pa_nil) (nomark _)) (pss_one (ps_set (i := 2) sc__law_next.nd rfl (Or.inl rfl) (pe_ix ix_list (pe_ix ix_list (pv 0) pe_int (fun _ _ => rfl)) (pe_op op_mod (pe_callTy call_int1 (by rfl) T.n_int (by decide +kernel) (pa_cons (pv 1) pa_nil)) (pe_callB call_len_seq (by rfl) T.n_len (by decide +kernel) (pa_cons (pe_ix ix_list (pv 0) pe_int (fun _ _ => rfl)) pa_nil))) (fun _ _ => rfl)))) pss_nil)
      (pss_cons (ps_if (PW.pt (pw_and (pt_cmpR op_lt (pv 1) (pe_callB call_len_seq (by rfl) T.n_len (by decide +kernel) (pa_cons (pe_ix ix_list (pv 0) pe_int (fun _ _ => rfl)) pa_nil)) (nomark _)) (pw_and1 (pt_cmpR op_ge (pv 2) (pe_op op_pow pe_int pe_int) (nomark _))))) (pss_one (ps_ret (pv 2))) pss_nil)
      (pss_cons (ps_set (i := 3) sc__law_next.nd rfl (Or.inl rfl) (pe_op op_mod (pe_callTy call_int1 (by rfl) T.n_int (by decide +kernel) (pa_cons (pe_op op_add (pe_op op_add (pe_op op_mod (pe_callTy call_int1 (by rfl) T.n_int (by decide +kernel) (pa_cons (pv 2) pa_nil)) pe_int) (pe_op op_mulW (pv 1) pe_int)) pe_int) pa_nil)) pe_int))
      (pss_cons (ps_set (i := 4) sc__law_next.nd rfl (Or.inl rfl) (pe_op op_mod (pe_callTy call_int1 (by rfl) T.n_int (by decide +kernel) (pa_cons (pe_op op_add (pe_op op_add (pe_op op_mulW (pv 3) (pv 3)) (pe_op op_mulW (pv 1) pe_int)) pe_int) pa_nil)) pe_int))
      (pss_cons (ps_set (i := 5) sc__law_next.nd rfl (Or.inl rfl) (pe_op op_mod (pe_callTy call_int1 (by rfl) T.n_int (by decide +kernel) (pa_cons (pe_op op_add (pe_op op_add (pe_op op_mulW (pv 4) (pv 4)) (pv 3)) (pe_op op_mulW (pe_op op_mulW (pv 1) (pv 1)) pe_int)) pa_nil)) pe_int))
      (pss_one (ps_ret (pe_op op_add (pe_op op_mulW (pe_op op_add (pe_op op_mulW (pv 5) pe_int) (pv 4)) pe_int) (pv 3)))))))))))), ?_⟩
    refine n_seq ?_
    refine ⟨.ref p, rfl, p, _, 1, .int t, rfl, rfl, SqL.of hp, rfl, ?_⟩
    dsimp only
    refine n_seq ?_
    refine ⟨_, rfl, t, 1, rfl, rfl, .ref p, rfl, p, _, 1, 1, rfl, rfl, hp, rfl, ?_⟩
    dsimp only
    have eb1 : ExB p H (upd H p (.lst [.ref a, .int (t + 1), .int v])) := ExB.upd (ExB.refl p H)
    have ha1 : (upd H p (.lst [.ref a, .int (t + 1), .int v])) a = some (.lst (cs.map V.int)) := eb1 _ _ hne ha
    have hp1 : (upd H p (.lst [.ref a, .int (t + 1), .int v])) p = some (.lst [.ref a, .int (t + 1), .int v]) := upd_same
    show tSeq _ _ _ _ (upd H p (.lst [.ref a, .int (t + 1), .int v]))
    generalize upd H p (.lst [.ref a, .int (t + 1), .int v]) = H1 at eb1 ha1 hp1 ⊢
    have m1 : CMulW t 1051 := mulW (a := 64) (b := 64) (b64 t0 (by omega)) (b64 (by decide) (by decide)) (by decide)
    refine n_seq ?_
    refine ⟨_, rfl, t, 1051, rfl, rfl, m1, _, 53, rfl, rfl, ?_⟩
    dsimp only
    -- a cell of the script, if there is one
    refine s_join (fun σ G => ∃ c : Int, σ = [some (.ref p), some (.int t), some (.int c), none, none, none] ∧ Ex H1 G) (fun NX hNX => ?_) ?_
    · refine ⟨.ref p, rfl, p, _, 0, .ref a, rfl, rfl, SqL.of hp1, rfl, by show 0 ≤ sizeLine; decide, fun l fl => ?_⟩
      have x1 := Ex.new (o := .lst []) fl
      refine ⟨.list (cs.map PyData.int), .list [], .lst (SqL.of (x1 _ _ ha1)) (dp_ints cs), .lst (SqL.of upd_same) .nil, sh_ints cs, rfl, _, rfl, ?_⟩
      cases cs with
      | nil =>
        have e : PyData.eqv (.list (([] : List Int).map PyData.int)) (.list []) = true := by simp [PyData.eqv, PyData.eqvAll]
        rw [e]
        refine iteF (n_next (hNX _ _ ⟨_, rfl, x1⟩))
      | cons c0 cs =>
        have e : PyData.eqv (.list ((c0 :: cs).map PyData.int)) (.list []) = false := by simp [PyData.eqv, PyData.eqvAll]
        rw [e]
        refine iteT ?_
        have pos : (0 : Int) < ((c0 :: cs).length : Nat) := by rw [List.length_cons]; omega
        have z0 : 0 ≤ t % (((c0 :: cs).map V.int).length : Int) := Int.emod_nonneg _ (by rw [List.length_map]; omega)
        have z1 : t % (((c0 :: cs).map V.int).length : Int) < (c0 :: cs).length := by
          rw [List.length_map]
          exact Int.emod_lt_of_pos _ pos
        obtain ⟨x, hx⟩ := atI_map (ms := c0 :: cs) z0 z1
        refine ⟨.ref p, rfl, p, _, 0, .ref a, rfl, rfl, SqL.of (x1 _ _ hp1), rfl, .int t, rfl, .inl ⟨t, rfl, .ref p, rfl, p, _, 0, .ref a, rfl, rfl, SqL.of (x1 _ _ hp1), rfl, a, _, rfl, .inl (SqL.of (x1 _ _ ha1)), t, _, rfl, rfl, by rw [List.length_map]; exact pos, a, _, _, .int x, rfl, rfl, SqL.of (x1 _ _ ha1), hx, ?_⟩⟩
        exact hNX _ _ ⟨x, rfl, x1⟩
    rintro σ G ⟨c, rfl, ex⟩
    have hpG := ex _ _ hp1
    have ebG : ExB p H G := eb1.trans (Ex.b ex)
    refine s_join (fun σ G' => σ = [some (.ref p), some (.int t), some (.int c), none, none, none] ∧ G' = G) (fun NX hNX => ?_) ?_
    · refine ⟨_, rfl, .ref p, rfl, p, _, 0, .ref a, rfl, rfl, SqL.of hpG, rfl, a, _, rfl, .inl (SqL.of (ex _ _ ha1)), t, _, rfl, rfl, _, rfl, ite2 (fun c1 => ?_) (fun c1 => n_next (hNX _ _ ⟨rfl, rfl⟩))⟩
      refine ⟨_, rfl, 10, 18, rfl, rfl, ⟨by decide, by decide, by decide⟩, c, _, rfl, rfl, _, rfl, ite2 (fun c2 => ?_) (fun c2 => n_next (hNX _ _ ⟨rfl, rfl⟩))⟩
      have c2' : (10 : Int) ^ (18 : Int).toNat ≤ c := of_decide_eq_true c2
      have e2 : (10 : Int) ^ (18 : Int).toNat = 1000000000000000000 := by decide
      exact ⟨_, rfl, k c G (by omega) ebG hpG⟩
    rintro σ _ ⟨rfl, rfl⟩
    -- mixed
    have a0 : 0 ≤ c % 2147483587 := Int.emod_nonneg _ (by decide)
    have a1 : c % 2147483587 < 2147483587 := Int.emod_lt_of_pos _ (by decide)
    generalize hc : c % 2147483587 = m at a0 a1
    refine n_seq ?_
    refine ⟨.int c, rfl, .inl ⟨c, rfl, c, 2147483587, rfl, rfl, (by decide : (0 : Int) < 2147483587), _, rfl, t, 30103, rfl, rfl, mulW (a := 64) (b := 64) (b64 t0 (by omega)) (b64 (by decide) (by decide)) (by decide), _, _, rfl, rfl, _, 79, rfl, rfl, .inl ⟨_, rfl, _, 2147483587, rfl, rfl, (by decide : (0 : Int) < 2147483587), ?_⟩⟩⟩
    rw [hc]
    have s0 : 0 ≤ (m + t * 30103 + 79) % 2147483587 := Int.emod_nonneg _ (by decide)
    have s1 : (m + t * 30103 + 79) % 2147483587 < 2147483587 := Int.emod_lt_of_pos _ (by decide)
    dsimp only
    generalize (m + t * 30103 + 79) % 2147483587 = o at s0 s1 ⊢
    have oo0 : 0 ≤ o * o := Int.mul_nonneg s0 s0
    have oo1 : o * o ≤ 2147483587 * 2147483587 := Int.le_trans (Int.mul_le_mul_of_nonneg_right (by omega : o ≤ 2147483587) s0) (Int.mul_le_mul_of_nonneg_left (by omega) (by decide))
    refine n_seq ?_
    refine ⟨_, rfl, _, rfl, o, o, rfl, rfl, mulW (a := 64) (b := 64) (b64 s0 (by omega)) (b64 s0 (by omega)) (by decide), _, rfl, t, 70039, rfl, rfl, mulW (a := 64) (b := 64) (b64 t0 (by omega)) (b64 (by decide) (by decide)) (by decide), _, _, rfl, rfl, _, 61, rfl, rfl, .inl ⟨_, rfl, _, 2147483563, rfl, rfl, (by decide : (0 : Int) < 2147483563), ?_⟩⟩
    have m0 : 0 ≤ (o * o + t * 70039 + 61) % 2147483563 := Int.emod_nonneg _ (by decide)
    have m1 : (o * o + t * 70039 + 61) % 2147483563 < 2147483563 := Int.emod_lt_of_pos _ (by decide)
    dsimp only
    generalize (o * o + t * 70039 + 61) % 2147483563 = y at m0 m1 ⊢
    have tt0 : 0 ≤ t * t := Int.mul_nonneg t0 t0
    have tt1 : t * t ≤ 99990 * 99990 := Int.le_trans (Int.mul_le_mul_of_nonneg_right t1 t0) (Int.mul_le_mul_of_nonneg_left t1 (by decide))
    refine n_seq ?_
    refine ⟨_, rfl, _, rfl, y, y, rfl, rfl, mulW (a := 64) (b := 64) (b64 m0 (by omega)) (b64 m0 (by omega)) (by decide), _, rfl, _, _, rfl, rfl, _, rfl, _, rfl, t, t, rfl, rfl, mulW (a := 64) (b := 64) (b64 t0 (by omega)) (b64 t0 (by omega)) (by decide), _, 37, rfl, rfl, mulW (a := 64) (b := 64) (b64 tt0 (by omega)) (b64 (by decide) (by decide)) (by decide), _, _, rfl, rfl, .inl ⟨_, rfl, _, 2147483549, rfl, rfl, (by decide : (0 : Int) < 2147483549), ?_⟩⟩
    have h0 : 0 ≤ (y * y + o + t * t * 37) % 2147483549 := Int.emod_nonneg _ (by decide)
    have h1 : (y * y + o + t * t * 37) % 2147483549 < 2147483549 := Int.emod_lt_of_pos _ (by decide)
    dsimp only
    generalize (y * y + o + t * t * 37) % 2147483549 = z at h0 h1 ⊢
    refine ⟨_, rfl, z, 2147483587, rfl, rfl, mulW (a := 64) (b := 64) (b64 h0 (by omega)) (b64 (by decide) (by decide)) (by decide), _, rfl, _, y, rfl, rfl, _, 2147483563, rfl, rfl, mulW (a := 64) (b := 64) (b64 (by omega) (by omega)) (b64 (by decide) (by decide)) (by decide), _, rfl, _, o, rfl, rfl, ?_⟩
    exact k _ _ (by omega) ebG hpG
def spDraw (K : PySem.W.Frag) : Sp := fun vs H Q _ => ∃ (p a : Addr) (m : Int) (N : Nat), vs = [.ref p, .int m] ∧ Pen H p a N ∧ 0 < m ∧ m < 1073741824 ∧ N ≤ 99990 ∧ ∀ r H', 0 ≤ r → r < m → ExB p H H' → Pen H' p a (N + 1) → Q (.int r) H'
theorem ok__law_draw (T : Txt K mg) : FnOk P w K mg base CX0 2 T.d__law_draw.a T.d__law_draw.fd ["_law_pen_here", "_law_under"] (spDraw K) := by
  refine T.d__law_draw.F.ok sc__law_draw (fun vs H Q E h => ?_) (fun cdv A outer s H vs Q E hr h => ?_)
  · obtain ⟨p, a, m, N, rfl, _⟩ := h
    rfl
  · obtain ⟨p, a, m, N, rfl, ⟨cs, t, v, hp, ha, hne, t0, t1, v0, hlen⟩, m0, m1, hN, k⟩ := h
    refine ⟨_, (pss_cons (ps_if (pt_cmpR op_lt (pe_ix ix_list (pv 0) pe_int (fun _ _ => rfl)) (pv 1) (nomark _)) (pss_one (ps_asg (pe_call (ok__law_next T) (hr.mono (by decide)) (by rfl) T.d__law_next.g T.d__law_next.F.kp T.d__law_next.b .nil pass0 (pa_cons (pv 0) pa_nil)) (pg_sub (pv 0) pe_int set_list))) pss_nil)
      (pss_cons (ps_set (i := 2) sc__law_draw.nd rfl (Or.inl rfl) (pe_op op_mod (pe_callTy call_int1 (by rfl) T.n_int (by decide +kernel) (pa_cons (pe_ix ix_list (pv 0) pe_int (fun _ _ => rfl)) pa_nil)) (pv 1)))
      (pss_cons (ps_asg (pe_op op_fdivN (pe_ix ix_list (pv 0) pe_int (fun _ _ => rfl)) (pv 1)) (pg_sub (pv 0) pe_int set_list))
      (pss_one (ps_ret (pv 2)))))), ?_⟩
    refine s_join (fun σ H' => ∃ t' v', σ = [some (.ref p), some (.int m), none] ∧ H' p = some (.lst [.ref a, .int t', .int v']) ∧ ExB p H H' ∧ 0 ≤ t' ∧ t' ≤ N + 1 ∧ 0 ≤ v') (fun NX hNX => ?_) ?_
    · refine ⟨.ref p, rfl, p, _, 2, .int v, rfl, rfl, SqL.of hp, rfl, .int m, rfl, v, m, rfl, rfl, _, rfl, ite2 (fun c => ?_) (fun c => ?_)⟩
      · refine ⟨.ref p, rfl, p, a, cs, t, v, rfl, hp, ha, hne, t0, by omega, hlen, fun r H1 r0 eb1 hp1 => ?_⟩
        refine ⟨.ref p, rfl, p, [.ref a, .int (t + 1), .int v], 2, 2, rfl, rfl, hp1, rfl, ?_⟩
        exact hNX _ _ ⟨t + 1, r, rfl, upd_same, eb1.upd, by omega, by omega, r0⟩
      · exact n_next (hNX _ _ ⟨t, v, rfl, hp, ExB.refl p H, t0, by omega, v0⟩)
    · rintro σ H' ⟨t', v', rfl, hp', eb, a0, a1, b0⟩
      have hS : SqL K H' p [.ref a, .int t', .int v'] := SqL.of hp'
      refine ⟨.ref p, rfl, p, _, 2, .int v', rfl, rfl, hS, rfl, .inl ⟨v', rfl, .int m, rfl, v', m, rfl, rfl, m0, ?_⟩⟩
      refine ⟨.ref p, rfl, p, _, 2, .int v', rfl, rfl, hS, rfl, .int m, rfl, v', m, rfl, rfl, ⟨by omega, by omega⟩, .ref p, rfl, p, _, 2, 2, rfl, rfl, hp', rfl, ?_⟩
      refine ⟨_, rfl, k _ _ (Int.emod_nonneg _ (by omega)) (Int.emod_lt_of_pos _ m0) eb.upd ⟨cs, t', _, upd_same, ?_, hne, a0, by omega, ?_, hlen⟩⟩
      · rw [upd_ne hne]
        exact eb _ _ hne ha
      · rw [Int.fdiv_eq_ediv_of_nonneg v' (by omega)]
        exact Int.ediv_nonneg b0 (by omega)
end
/-! ### the program: onenumber.errors, onenumber.amounts, for any data -/
/-- an error of the class at C that keeps v, raised from H on -/
def Er (C : Addr) (v : V) (H : Hp) (E : XK) : Prop := ∀ dd k H', Ex H H' → H' dd = some (.xd (kd k v)) → E (.ref C) (some dd) H'
theorem Er.ex {C : Addr} {v : V} {H H1 : Hp} {E : XK} (e : Ex H H1) (h : Er C v H E) : Er C v H1 E := fun dd k H' e' q => h dd k H' (e.trans e') q
theorem rd_raise {C : Addr} {v : V} {σ : L2.St} {H : Hp} {i : Nat} {E : XK} (hv : σ[i]? = some (some v)) (k : Er C v H E) : tMkO C (spInit C) [] (tCons (tVar i) tNil) σ H E := by
  refine ⟨v, hv, by show 1 ≤ 1000; decide, fun a ha => ⟨a, v, rfl, upd_same, fun dx kn H' h1 ne e1 e2 keep => ⟨rfl, dx, _, e1, e2, ?_, ?_⟩⟩⟩
  · rw [upd_ne ne] at h1
    exact h1
  · rw [upd_ne ne] at h1
    refine k dx kn _ (fun b o hb => ?_) upd_same
    have n1 : b ≠ a := ne_of_none hb ha
    rw [upd_ne (ne_of_none hb h1), del_ne n1]
    exact keep b o n1 (by rw [upd_ne n1]; exact hb)
def ival : PyData → Int
  | .int n => n
  | _ => 0
section
variable {K : PySem.W.Frag} {p : Addr} {H H' : Hp} {v : V} {d : PyData} {σ : L2.St} {i : Nat} {b : Bool}
theorem Dq.ival (h : Dq K p H v d) (hw : isWh d = true) : v = .int (ival d) ∧ d = .int (Jf.ival d) := by
  cases h with
  | int n => exact ⟨rfl, rfl⟩
  | _ => cases hw
theorem ev_isi {T : String} (hv : σ[i]? = some (some v)) (hd : Dq K p H v d) (hk : kitB (tyName d) T = some b) : Ev (tCB (rIsi K) (tCons (tVar i) (tCons (tC (.ty T)) tNil))) σ H (.bl b) :=
  fun H1 e Q k => ⟨v, hv, v, .ty T, .type (tyName d), .type T, b, rfl, .ty _, (Dq.ex e _ _ hd).ty, kit_ty hk, k H1 (Ex.refl H1)⟩
def spIsD (K : PySem.W.Frag) (sm : PyData → Prop) (f : PyData → Bool) : Sp := fun vs H Q _ => ∃ (p : Addr) (v : V) (d : PyData), vs = [v] ∧ Dq K p H v d ∧ sm d ∧ ∀ H', Ex H H' → Q (.bl (f d)) H'
theorem ev_isD {E : XK} {sm : PyData → Prop} {f : PyData → Bool} {te : TE} (he : Ev te σ H v) (hd : Dq K p H v d) (hs : sm d) : Ev (tCall (spIsD K sm f) [] E (tCons te tNil)) σ H (.bl (f d)) :=
  fun H1 e Q k => he H1 e _ fun H2 e2 => ⟨p, v, d, rfl, Dq.ex (e.trans e2) _ _ hd, hs, fun H' e' => k H' (e2.trans e')⟩
/-- nothing asked -/
def Any (_ : PyData) : Prop := True
def spReq (K : PySem.W.Frag) (C : Addr) (f : PyData → Bool) : Sp := fun vs H Q E => ∃ (p : Addr) (v : V) (d : PyData), vs = [v] ∧ Dq K p H v d ∧ (f d = true → ∀ H', Ex H H' → Q .non H') ∧ (f d = false → Er C v H E)
/-- two fractions, or none -/
def spX (K : PySem.W.Frag) (C : Addr) (ok : Rat → Prop) (R : Rat → Rat → V → Hp → Prop) : Sp := fun vs H Q E => ∃ (p : Addr) (u v : V) (d e : PyData), vs = [u, v] ∧ Dq K p H u d ∧ Dq K p H v e ∧ Bd 100 (frQ d) ∧ Bd 100 (frQ e) ∧
  (frB d = false → Er C u H E) ∧ (frB d = true → frB e = false → Er C v H E) ∧ (frB d = true → frB e = true → ¬ ok (frQ e) → Er C v H E) ∧
  (frB d = true → frB e = true → ok (frQ e) → ∀ z H', Ex H H' → R (frQ d) (frQ e) z H' → Q z H')
end
section
variable {P : Program} {w : World} {K : PySem.W.Frag} {mg : Str → Option Value} {base : Heap}
end
section
variable {P : Program} {w : World} {K : PySem.W.Frag} {mg : Str → Option Value} {base : Heap}
theorem ok_is_whole (T : Txt K mg) : FnOk P w K mg base CX0 1 T.d_is_whole.a T.d_is_whole.fd ["value"] (spIsD K Any isWh) := by
  refine T.d_is_whole.F.ok sc_is_whole (fun vs H Q E h => ?_) (fun cdv A outer s H vs Q E hr h => ?_)
  · obtain ⟨p, v, d, rfl, _⟩ := h
    rfl
  · obtain ⟨p, v, d, rfl, hd, _, k⟩ := h
    refine ⟨_, (pss_one (ps_ret (pe_and (pe_callB call_isi (by rfl) T.n_isinstance (by decide +kernel) (pa_cons (pv 0) (pa_cons (pe_bltn (v := .ty "int") (by rfl) T.n_int (by decide +kernel) rfl) pa_nil))) (pe_one (pe_not (pe_callB call_isi (by rfl) T.n_isinstance (by decide +kernel) (pa_cons (pv 0) (pa_cons (pe_bltn (v := .ty "bool") (by rfl) T.n_bool (by decide +kernel) rfl) pa_nil)))))))), ?_⟩
    refine s_ret (ev_andV (ev_isi rfl hd (kit_int d)) fun _ => ev_notV (ev_isi rfl hd (kit_bool d))) fun H1 e => ?_
    rw [wh_eq]
    exact k H1 e
theorem ok_is_fraction (T : Txt K mg) : FnOk P w K mg base CX0 2 T.d_is_fraction.a T.d_is_fraction.fd ["value"] (spIsD K Any frB) := by
  refine T.d_is_fraction.F.ok sc_is_fraction (fun vs H Q E h => ?_) (fun cdv A outer s H vs Q E hr h => ?_)
  · obtain ⟨p, v, d, rfl, _⟩ := h
    rfl
  · obtain ⟨p, v, d, rfl, hd, _, k⟩ := h
    refine ⟨_, (pss_cons (ps_if (PW.pt (pw_or (pt_not (pt_val (pe_callB call_isi (by rfl) T.n_isinstance (by decide +kernel) (pa_cons (pv 0) (pa_cons (pe_bltn (v := .ty "tuple") (by rfl) T.n_tuple (by decide +kernel) rfl) pa_nil))))) (pw_or1 (pt_cmpR op_ne (pe_callB call_len_seq (by rfl) T.n_len (by decide +kernel) (pa_cons (pv 0) pa_nil)) pe_int (nomark _))))) (pss_one (ps_ret pe_bl)) pss_nil)
      (pss_cons (ps_asg (pv 0) (pg_tup (by rfl) (pgs_cons (pg_name (i := 1) sc_is_fraction.nd rfl (Or.inl rfl)) (pgs_cons (pg_name (i := 2) sc_is_fraction.nd rfl (Or.inl rfl)) pgs_nil))))
      (pss_cons (ps_if (PW.pt (pw_or (pt_not (pt_val (pe_call (ok_is_whole T) (hr.mono (by decide)) (by rfl) T.d_is_whole.g T.d_is_whole.F.kp T.d_is_whole.b .nil pass0 (pa_cons (pv 1) pa_nil)))) (pw_or (pt_not (pt_val (pe_call (ok_is_whole T) (hr.mono (by decide)) (by rfl) T.d_is_whole.g T.d_is_whole.F.kp T.d_is_whole.b .nil pass0 (pa_cons (pv 2) pa_nil)))) (pw_or1 (pt_cmpR op_le (pv 2) pe_int (nomark _)))))) (pss_one (ps_ret pe_bl)) pss_nil)
      (pss_one (ps_ret (pe_cmpR op_eq (pe_callBfun cr_gcd (by rfl) T.n_gcd (pa_cons (pv 1) (pa_cons (pv 2) pa_nil))) pe_int (nomark _))))))), ?_⟩
    by_cases ht : isTup d = true
    · cases hd with
      | @tup a xs ds hS hA =>
        by_cases h2 : xs.length = 2
        · have h2' := h2
          rw [hA.len] at h2'
          obtain ⟨x1, x2, rfl⟩ : ∃ x1 x2, xs = [x1, x2] := match xs, h2 with | [x1, x2], _ => ⟨x1, x2, rfl⟩
          obtain ⟨d1, d2, rfl⟩ : ∃ d1 d2, ds = [d1, d2] := match ds, h2' with | [d1, d2], _ => ⟨d1, d2, rfl⟩
          have hD : Dq K p H (.ref a) (.tuple [d1, d2]) := .tup hS hA
          obtain ⟨q1, q2⟩ : Dq K p H x1 d1 ∧ Dq K p H x2 d2 := by
            cases hA with
            | cons a b =>
              cases b with
              | cons b c => exact ⟨a, b⟩
          refine s_if (b := false) (et_is (et_or (et_not (et_B (ev_isi rfl hD (kit_tup _)))) fun _ => et_test (fun H1 e Q k => ⟨_, rfl, a, _, rfl, .inr (ex_t e hS), rfl, k H1 (Ex.refl H1)⟩)) rfl) (fun z => nomatch z) fun _ H1 e1 => ?_
          refine ⟨_, rfl, a, [x1, x2], rfl, ex_t e1 hS, rfl, _, _, rfl, _, _, rfl, rfl, ?_⟩
          have r1 := Dq.ex e1 _ _ q1
          have r2 := Dq.ex e1 _ _ q2
          have hlt : isWh d2 = true → x2 = .int (ival d2) := fun z => (r2.ival z).1
          refine s_if (b := !isWh d1 || (!isWh d2 || decide (ival d2 ≤ 0))) (et_or (et_not (et_B (ev_isD (ev_var rfl) r1 trivial))) fun _ => et_or (et_not (et_B (ev_isD (ev_var rfl) r2 trivial))) fun z => et_test (by
            have z' : isWh d2 = true := by simpa using z
            have hx := hlt z'
            subst hx
            exact ev_op (ev_var rfl) ev_c rv_I0)) (fun z H2 e2 => ?_) (fun z H2 e2 => ?_)
          · have e : frB (.tuple [d1, d2]) = false := by
              cases d1 with
              | int n =>
                cases d2 with
                | int m =>
                  have z' : decide (m ≤ 0) = true := z
                  have : ¬ 0 < m := by
                    have := of_decide_eq_true z'
                    omega
                  simp [frB, this]
                | _ => rfl
              | _ => rfl
            rw [e] at k
            exact k H2 (e1.trans e2)
          · have w1 : isWh d1 = true := by
              cases h : isWh d1 with
              | true => rfl
              | false =>
                rw [h] at z
                cases z
            have w2 : isWh d2 = true := by
              cases h : isWh d2 with
              | true => rfl
              | false =>
                rw [h, w1] at z
                cases z
            obtain ⟨g1, g2⟩ := r1.ival w1
            obtain ⟨g3, g4⟩ := r2.ival w2
            rw [w1, w2] at z
            have z' : ¬ ival d2 ≤ 0 := of_decide_eq_false (by simpa using z)
            generalize ival d1 = n at g1 g2
            generalize ival d2 = m at g3 g4 z'
            subst g1 g2 g3 g4
            refine ⟨_, rfl, _, rfl, n, m, rfl, rfl, ?_⟩
            have e : frB (.tuple [.int n, .int m]) = decide (V.int ((Nat.gcd n.natAbs m.natAbs : Nat) : Int) = V.int 1) := by
              simp only [frB]
              rw [decide_eq_true (by omega : 0 < m), Bool.true_and]
              rw [Bool.eq_iff_iff, decide_eq_true_iff, decide_eq_true_iff]
              constructor
              · intro h
                rw [h]
                rfl
              · intro h
                have := V.int.inj h
                omega
            rw [e] at k
            exact k H2 (e1.trans e2)
        · refine s_if (b := true) (et_is (et_or (et_not (et_B (ev_isi rfl (.tup hS hA) (kit_tup _)))) fun _ => et_test (fun H1 e Q k => ⟨_, rfl, a, _, rfl, .inr (ex_t e hS), rfl, k H1 (Ex.refl H1)⟩)) ?_) (fun _ H1 e1 => ?_) (fun z => nomatch z)
          · have : ¬ V.int (xs.length : Int) = V.int 2 := fun z => h2 (by
              have := V.int.inj z
              omega)
            simp [isTup, this]
          · have e : frB (.tuple ds) = false := by
              have := hA.len
              match ds, this with
              | [], _ => rfl
              | [_], _ => simp [frB]
              | [_, _], h => exact absurd h h2
              | _ :: _ :: _ :: _, _ => simp [frB]
            rw [e] at k
            exact k H1 e1
      | _ => cases ht
    · have e : frB d = false := by
        cases d <;> (first | rfl | exact absurd rfl ht)
      have ht' : isTup d = false := by simpa using ht
      refine s_if (b := true) (et_is (et_or (b := false) (et_not (et_B (ev_isi rfl hd (kit_tup d)))) fun z => ?_) ?_) (fun _ H1 e1 => ?_) (fun z => nomatch z)
      · rw [ht'] at z
        cases z
      · rw [ht']
        rfl
      · rw [e] at k
        exact k H1 e1
end
def posB (d : PyData) : Bool := frB d && decide (0 < (frQ d).num)
section
variable {K : PySem.W.Frag} {p : Addr} {H : Hp} {v : V} {d : PyData} {σ : L2.St} {i : Nat}
theorem Dq.seq {ds : List PyData} (h : Dq K p H v (.tuple ds)) : ∃ a xs, v = .ref a ∧ SqT K H a xs ∧ DqAll K p H xs ds := by
  cases h with
  | tup hS hA => exact ⟨_, _, rfl, hS, hA⟩
theorem ev_lenT {ds : List PyData} (hv : σ[i]? = some (some v)) (hd : Dq K p H v (.tuple ds)) : Ev (tCB (fun xs H_1 Q => ∃ p ys, xs = [V.ref p] ∧ (SqL K H_1 p ys ∨ SqT K H_1 p ys) ∧ Q (V.int ys.length) H_1) (tCons (tVar i) tNil)) σ H (.int (ds.length : Int)) := fun H1 e Q k => by
  obtain ⟨a, xs, rfl, hS, hA⟩ := hd.seq
  refine ⟨_, hv, a, xs, rfl, .inr (ex_t e hS), ?_⟩
  rw [hA.len]
  exact k H1 (Ex.refl H1)
theorem DqAll.get : ∀ {vs : List V} {ds : List PyData} {j : Nat} {dj : PyData}, DqAll K p H vs ds → ds[j]? = some dj → ∃ x, vs[j]? = some x ∧ Dq K p H x dj
  | _, _, j, dj, .nil, e => by simp at e
  | _, _, 0, dj, .cons h hs, e => by
    simp only [List.getElem?_cons_zero, Option.some.injEq] at e
    subst e
    exact ⟨_, rfl, h⟩
  | _, _, j + 1, dj, .cons h hs, e => by
    simp only [List.getElem?_cons_succ] at e ⊢
    exact DqAll.get hs e
/-- an item of a tuple -/
theorem ed_ix {ds : List PyData} {j : Nat} {dj : PyData} (hv : σ[i]? = some (some v)) (hd : Dq K p H v (.tuple ds)) (e : ds[j]? = some dj) : EvP (tOp (rIxT K) (tVar i) (tC (.int (j : Int)))) σ H (fun x H' => Dq K p H' x dj) := fun H1 e1 Q k => by
  obtain ⟨a, xs, rfl, hS, hA⟩ := hd.seq
  obtain ⟨x, hx, q⟩ := hA.get e
  exact ⟨_, hv, a, xs, j, x, rfl, rfl, ex_t e1 hS, atI_nat hx, k x H1 (Ex.refl _) (Dq.ex e1 _ _ q)⟩
theorem ev_isDp {E : XK} {sm : PyData → Prop} {f : PyData → Bool} {te : TE} (he : EvP te σ H fun x H' => Dq K p H' x d) (hs : sm d) : Ev (tCall (spIsD K sm f) [] E (tCons te tNil)) σ H (.bl (f d)) :=
  fun H1 e Q k => he H1 e _ fun x H2 e2 q => ⟨p, x, d, rfl, q, hs, fun H' e' => k H' (e2.trans e')⟩
end
section
variable {K : PySem.W.Frag} {p : Addr} {H : Hp} {v : V} {d : PyData} {σ : L2.St} {i : Nat} {te ta tb tc : TE} {x y w : V} {r r' : R2}
theorem ev_chain {a b : Bool} (ha : Ev ta σ H x) (hb : Ev tb σ H y) (hc : Ev tc σ H w) (h1 : ∀ H, RV r x y H (.bl a)) (h2 : ∀ H, RV r' y w H (.bl b)) : Ev (tChain r r' ta tb tc) σ H (.bl (a && b)) := fun H1 e Q k =>
  ha H1 e _ fun H2 e2 => hb H2 (e.trans e2) _ fun H3 e3 => h1 H3 H3 (Ex.refl _) _ fun H4 e4 => ⟨a, rfl, by
    cases a with
    | true =>
      rw [if_pos rfl]
      exact hc H4 (((e.trans e2).trans e3).trans e4) _ fun H5 e5 => h2 H5 H5 (Ex.refl _) _ fun H6 e6 => k H6 ((((e2.trans e3).trans e4).trans e5).trans e6)
    | false =>
      rw [if_neg (by decide)]
      exact k H4 ((e2.trans e3).trans e4)⟩
mutual
theorem Dq.dp : ∀ (d : PyData) (v : V), d.hasDict = false → Dq K p H v d → Dp K H v d
  | _, _, _, .non => .non
  | _, _, _, .bl b => .bl b
  | _, _, _, .int i => .int i
  | _, _, _, .str x => .str x
  | _, _, h0, .lst n m h hs => .lst (SqL.of h) (DqAll.dp _ _ (by simpa [PyData.hasDict] using h0) hs)
  | _, _, h0, .tup h hs => .tup h (DqAll.dp _ _ (by simpa [PyData.hasDict] using h0) hs)
  | _, _, h0, .emp h => by simp [PyData.hasDict] at h0
theorem DqAll.dp : ∀ (ds : List PyData) (vs : List V), PyData.hasDictAll ds = false → DqAll K p H vs ds → DpAll K H vs ds
  | _, _, _, .nil => .nil
  | _, _, h0, .cons h hs => by
    simp only [PyData.hasDictAll, Bool.or_eq_false_iff] at h0
    exact .cons (Dq.dp _ _ h0.1 h) (DqAll.dp _ _ h0.2 hs)
end
end
/-! ### tests that come out false -/
section
variable {K : PySem.W.Frag} {σ : L2.St} {H : Hp} {D : Ends} {t : TT} {tu tw : TS}
theorem yes_of {Q : Bool → Hp → Prop} (h : Q true H) : tYes σ H Q := h
theorem s_skip (h : EvT t σ H false) (k : ∀ H1, Ex H H1 → D.nx σ H1) : tIfS t tu tNext D σ H := s_if h (fun z => nomatch z) fun _ H1 e => k H1 e
theorem dec_ne {x y : Int} (h : x = y) : (!decide (V.int x = V.int y)) = false := by subst h; simp
theorem dec_neQ {x y : Rat} (h : x = y) : (!decide (x = y)) = false := by subst h; simp
theorem or_ff {a b : Bool} (h : a = false) (h' : b = false) : (a || b) = false := by subst h h'; rfl
/-- the test «two fractions differ» of two that are the same -/
theorem et_neF {ta tb : TE} {b c : Nat} {q r : Rat} (ha : EvP ta σ H (Fr K b q)) (hb : EvP tb σ H (Fr K c r)) (h : q = r) : EvT (tTest (tOp (rNeD K) ta tb)) σ H false := et_is (et_test (ev_neD ha hb)) (dec_neQ h)
theorem et_orF {t u : TT} (h1 : EvT t σ H false) (h2 : EvT u σ H false) : EvT (tOr t u) σ H false := et_is (et_or h1 fun _ => h2) rfl
/-- a written pair -/
theorem ep_lit {x y : Int} {q : Rat} {b : Nat} (e1 : x = q.num) (e2 : y = (q.den : Int)) (bd : Bd b q) : EvP (tTup (tCons (tC (.int x)) (tCons (tC (.int y)) tNil))) σ H (Fr K b q) := ep_tup ev_c ev_c e1 e2 bd
theorem ep_01 : EvP (tTup (tCons (tC (.int 0)) (tCons (tC (.int 1)) tNil))) σ H (Fr K 1 0) := ep_lit rfl rfl ⟨by decide, by decide⟩
end
/-! ### data that is drawn -/
section
variable {K : PySem.W.Frag} {p : Addr} {σ : L2.St} {H H' : Hp} {te ta tb : TE} {v : V} {d : PyData} {ds : List PyData} {tt : TT}
def EvD (K : PySem.W.Frag) (p : Addr) (te : TE) (σ : L2.St) (H : Hp) (d : PyData) : Prop := EvP te σ H fun v H => Dq K p H v d
def EvDs (K : PySem.W.Frag) (p : Addr) (ta : TA) (σ : L2.St) (H : Hp) (ds : List PyData) : Prop := ∀ H1, Ex H H1 → ∀ Q : List V → Hp → Prop, (∀ vs H2, Ex H1 H2 → DqAll K p H2 vs ds → Q vs H2) → ta σ H1 Q
theorem ed_ev (h : Ev te σ H v) (hd : ∀ H, Dq K p H v d) : EvD K p te σ H d := fun H1 e Q k => h H1 e Q fun H2 e2 => k v H2 e2 (hd H2)
theorem ed_var {i : Nat} (h : σ[i]? = some (some v)) (hd : Dq K p H v d) : EvD K p (tVar i) σ H d := fun H1 e _ k => ⟨v, h, k v H1 (Ex.refl H1) (Dq.ex e _ _ hd)⟩
theorem ed_int {n : Int} : EvD K p (tC (.int n)) σ H (.int n) := ed_ev ev_c fun _ => .int n
theorem ed_neg {n : Int} : EvD K p (tUn (rU fun i => .int (-i)) (tC (.int n))) σ H (.int (-n)) := ed_ev (ev_neg ev_c) fun _ => .int _
theorem ed_bool {b : Bool} : EvD K p (tC (.bl b)) σ H (.bool b) := ed_ev ev_c fun _ => .bl b
theorem ed_none : EvD K p (tC .non) σ H .none := ed_ev ev_c fun _ => .non
theorem ed_str {x : Str} : EvD K p (tC (.str x)) σ H (.str x) := ed_ev ev_c fun _ => .str x
theorem ed_fr {b : Nat} {q : Rat} (h : EvP te σ H (Fr K b q)) : EvD K p te σ H (frd q) := fun H1 e Q k => h H1 e Q fun v H2 e2 f => k v H2 e2 f.dq
theorem eds_nil : EvDs K p tNil σ H [] := fun H1 e Q k => k [] H1 (Ex.refl H1) .nil
theorem eds_cons {tr : TA} (h : EvD K p te σ H d) (hs : EvDs K p tr σ H ds) : EvDs K p (tCons te tr) σ H (d :: ds) := fun H1 e Q k =>
  h H1 e _ fun v H2 e2 q => hs H2 (e.trans e2) _ fun vs H3 e3 qs => k _ H3 (e2.trans e3) (.cons (Dq.ex e3 _ _ q) qs)
theorem ed_tup {ta : TA} (h : EvDs K p ta σ H ds) (hl : ds.length ≤ 1000) : EvD K p (tTup ta) σ H (.tuple ds) := fun H1 e Q k =>
  h H1 e _ fun vs H2 e2 qs => ⟨Nat.le_of_lt (small1000 (by rw [qs.len]; exact hl)), fun a fa => k _ _ (e2.trans (Ex.new fa)) (.tup (SqT.of upd_same) (DqAll.ex (Ex.new fa) _ _ qs))⟩
theorem ed_lst {ta : TA} {o : HO} (hp : H p = some o) (h : EvDs K p ta σ H ds) (hl : ds.length ≤ 1000) : EvD K p (tLstN ta) σ H (.list ds) := fun H1 e Q k =>
  h H1 e _ fun vs H2 e2 qs => ⟨Nat.le_of_lt (small1000 (by rw [qs.len]; exact hl)), fun a fa fm => k _ _ (e2.trans (Ex.new fa)) (.lst (ne_of_none (e2 _ _ (e _ _ hp)) fa).symm fm upd_same (DqAll.ex (Ex.new fa) _ _ qs))⟩
end
def tI (n : Int) : TE := tC (.int n)
def tN (n : Int) : TE := tUn (rU fun i => .int (-i)) (tC (.int n))
def tP (a b : TE) : TE := tTup (tCons a (tCons b tNil))
section
variable {K : PySem.W.Frag} {p : Addr} {σ : L2.St} {H : Hp} {a b : TE} {d e : PyData} {v : V} {q r : Rat}
theorem ed_I {n : Int} : EvD K p (tI n) σ H (.int n) := ed_int
theorem ed_N {n : Int} : EvD K p (tN n) σ H (.int (-n)) := ed_neg
theorem ed_P (h : EvD K p a σ H d) (g : EvD K p b σ H e) : EvD K p (tP a b) σ H (.tuple [d, e]) := ed_tup (eds_cons h (eds_cons g eds_nil)) (by show 2 ≤ 1000; decide)
def LstD (K : PySem.W.Frag) (p : Addr) (ds : List PyData) (v : V) (H : Hp) : Prop := ∃ (l : Addr) (vs : List V), v = .ref l ∧ l ≠ p ∧ l ≠ sysModules ∧ H l = some (.lst vs) ∧ DqAll K p H vs ds
def LstD0 (K : PySem.W.Frag) (p : Addr) (ds : List PyData) (v : V) (H : Hp) : Prop := ∃ (l : Addr) (vs : List V), v = .ref l ∧ l ≠ p ∧ H l = some (.lst vs) ∧ DqAll K p H vs ds
theorem LstD.to0 {ds : List PyData} (h : LstD K p ds v H) : LstD0 K p ds v H := by
  obtain ⟨l, vs, rfl, n, m, h, q⟩ := h
  exact ⟨l, vs, rfl, n, h, q⟩
theorem el_lst {tm : TA} {ds : List PyData} {o : HO} (hh : H p = some o) (hm : EvDs K p tm σ H ds) (hl : ds.length ≤ 900) : EvP (tLstN tm) σ H (LstD K p ds) := fun H1 e Q k =>
  hm H1 e _ fun vs H2 e2 qs => ⟨Nat.le_of_lt (small1000 (by rw [qs.len]; omega)), fun l fl fm => k _ _ (e2.trans (Ex.new fl)) ⟨l, vs, rfl, (ne_of_none (e2 _ _ (e _ _ hh)) fl).symm, fm, upd_same, DqAll.ex (Ex.new fl) _ _ qs⟩⟩
end
/-! ### tables -/
section
variable {P : Program} {w : World} {K : PySem.W.Frag} {mg : Str → Option Value} {base : Heap}
/-- a def by its body, its code object known -/
theorem okC {x qual : Str} {st : Stmt} {f c : Addr} {fd : FuncData} {N ps : List Str} {k : Nat} {sp : Sp} (F : Fun K x qual st f fd) (hc : fd.code = .ref c) (S : FnScope N ps (defScope st)) (len : ∀ vs H Q E, sp vs H Q E → vs.length = ps.length)
    (body : ∀ (A : Around) (outer : List Env) (s : Shared) (H : Hp) (vs : List V) (Q : VK) (E : XK), Room k (A.deeper (envOfC qual (defScope st) s.heap.objs.size f (.ref c))) → sp vs H Q E →
      ∃ t, PSs (cxOf CX0 P w K mg base N qual (defScope st) f (.ref c) A outer s H E).nox (defBody st) t ∧ t { nx := fun _ H' => Q .non H', rt := Q } (start N vs) H) : FnOk P w K mg base CX0 (k + 1) f fd ps sp := by
  obtain ⟨oc, od, kV, doc, pm, an, cdv, ct, osl, rfl, lk, hcd⟩ := F.ex
  obtain rfl : cdv = .ref c := hc
  apply fn_of lk hcd S len
  intro A outer s H vs Q E hr hsp
  obtain ⟨t, h, q⟩ := body A outer s H vs Q E hr hsp
  exact ⟨t, h.nox, q⟩
end
theorem num_pos_iff (q : Rat) : 0 < q.num ↔ 0 < q := by
  have h1 : (0 : Int) ≤ q.num ↔ 0 ≤ q := Rat.num_nonneg
  have h2 : q.num = 0 ↔ q = 0 := Rat.num_eq_zero
  constructor
  · intro h
    have a := h1.mp (by omega)
    have b : q ≠ 0 := fun e => by have := h2.mpr e; omega
    grind
  · intro h
    have a := h1.mpr (by grind)
    have b : q.num ≠ 0 := fun e => by have := h2.mp e; grind
    omega
section
variable {P : Program} {w : World} {K : PySem.W.Frag} {mg : Str → Option Value} {base : Heap}
theorem ok_lowest (T : Txt K mg) : FnOk P w K mg base CX0 1 T.d_lowest.a T.d_lowest.fd ["top", "bottom"] (spLow K) := by
  refine T.d_lowest.F.ok sc_lowest (fun vs H Q E h => ?_) (fun cdv A outer s H vs Q E hr h => ?_)
  · obtain ⟨n, d, b, rfl, _⟩ := h
    rfl
  · obtain ⟨n, d, b, rfl, hd, hn, hb, hl, k⟩ := h
    refine ⟨_, (pss_cons (ps_set (i := 2) sc_lowest.nd rfl (Or.inl rfl) (pe_callBfun cr_gcd (by rfl) T.n_gcd (pa_cons (pv 0) (pa_cons (pv 1) pa_nil))))
      (pss_cons (ps_if (pt_cmpR op_lt (pv 1) pe_int (nomark _)) (pss_one (ps_set (i := 2) sc_lowest.nd rfl (Or.inl rfl) (pe_un un_neg (pv 2)))) pss_nil)
      (pss_one (ps_ret (pe_tup (pa_cons (pe_op op_fdivZ (pv 0) (pv 2)) (pa_cons (pe_op op_fdivZ (pv 1) (pv 2)) pa_nil))))))), ?_⟩
    have e := lowest_eq n d hd
    have hG : Nat.gcd n.natAbs d.natAbs ≤ d.natAbs := Nat.gcd_le_right _ (by omega)
    have hp := gcd_pos (n := n) hd
    refine ⟨_, rfl, _, rfl, n, d, rfl, ?_⟩
    refine ⟨_, rfl, d, 0, rfl, rfl, _, rfl, ite2 (fun c => ?_) (fun c => ?_)⟩
    · have c' : d < 0 := of_decide_eq_true c
      rw [if_pos c'] at e
      refine ⟨_, rfl, _, rfl, ?_⟩
      have hz : ∀ i : Int, CDivZ i (-((Nat.gcd n.natAbs d.natAbs : Nat) : Int)) := fun _ => ⟨by omega, by
        have : (-((Nat.gcd n.natAbs d.natAbs : Nat) : Int)).natAbs = Nat.gcd n.natAbs d.natAbs := by omega
        rw [this]
        exact log_lt (Nat.lt_of_le_of_lt hG hb) (by omega : b ≤ 9000) (by decide)⟩
      exact s_retP (ep_tup (b := b) (ev_fdivZ (ev_var rfl) (ev_var rfl) (hz _)) (ev_fdivZ (ev_var rfl) (ev_var rfl) (hz _)) e.1 e.2 (bd_divInt hd hn hb)) fun z H1 e w => k z H1 e w
    · have c' : ¬ d < 0 := fun z => c (decide_eq_true z)
      rw [if_neg c'] at e
      have hz : ∀ i : Int, CDivZ i ((Nat.gcd n.natAbs d.natAbs : Nat) : Int) := fun _ => ⟨by omega, by
        have : ((Nat.gcd n.natAbs d.natAbs : Nat) : Int).natAbs = Nat.gcd n.natAbs d.natAbs := by omega
        rw [this]
        exact log_lt (Nat.lt_of_le_of_lt hG hb) (by omega : b ≤ 9000) (by decide)⟩
      exact s_retP (ep_tup (b := b) (ev_fdivZ (ev_var rfl) (ev_var rfl) (hz _)) (ev_fdivZ (ev_var rfl) (ev_var rfl) (hz _)) e.1 e.2 (bd_divInt hd hn hb)) fun z H1 e w => k z H1 e w
theorem ok_multiply (T : Txt K mg) : FnOk P w K mg base CX0 2 T.d_multiply.a T.d_multiply.fd ["one", "other"] (sp2 K (fun _ => True) fun q r => q * r) := by
  refine T.d_multiply.F.ok sc_multiply (fun vs H Q E h => ?_) (fun cdv A outer s H vs Q E hr h => ?_)
  · obtain ⟨u, v, b, c, q, r, rfl, _⟩ := h
    rfl
  · obtain ⟨u, v, b, c, q, r, rfl, f, g, hl, _, k⟩ := h
    refine ⟨_, (pss_one (ps_ret (pe_call (ok_lowest T) (hr.mono (by decide)) (by rfl) T.d_lowest.g T.d_lowest.F.kp T.d_lowest.b .nil pass0 (pa_cons (pe_op op_mulW (pe_ix ix_tup (pv 0) pe_int (fun _ _ => rfl)) (pe_ix ix_tup (pv 1) pe_int (fun _ _ => rfl))) (pa_cons (pe_op op_mulW (pe_ix ix_tup (pv 0) pe_int (fun _ _ => rfl)) (pe_ix ix_tup (pv 1) pe_int (fun _ _ => rfl))) pa_nil))))), ?_⟩
    have F := @ep_var K (start n_multiply [u, v]) H u b q 0 rfl f
    have G := @ep_var K (start n_multiply [u, v]) H v c r 1 rfl g
    have x := f.bd
    have y := g.bd
    exact s_retP (ep_Low (b := b + c + 1) (ev_mulW (ev_0 F) (ev_0 G) (mulW x.1 y.1 (by omega))) (ev_mulW (ev_1 F) (ev_1 G) (mulW (bd_den x) (bd_den y) (by omega)))
      (Int.mul_ne_zero (den_ne q) (den_ne r)) (lt_pow_mono (Nat.le_succ _) (bn_mul x.1 y.1)) (lt_pow_mono (Nat.le_succ _) (bn_mul (bd_den x) (bd_den y))) hl (mul_eq q r)) fun z H1 e w => k z H1 e w
theorem ok_divide (T : Txt K mg) : FnOk P w K mg base CX0 2 T.d_divide.a T.d_divide.fd ["one", "other"] (sp2 K (fun r => r ≠ 0) fun q r => q / r) := by
  refine T.d_divide.F.ok sc_divide (fun vs H Q E h => ?_) (fun cdv A outer s H vs Q E hr h => ?_)
  · obtain ⟨u, v, b, c, q, r, rfl, _⟩ := h
    rfl
  · obtain ⟨u, v, b, c, q, r, rfl, f, g, hl, h0, k⟩ := h
    refine ⟨_, (pss_one (ps_ret (pe_call (ok_lowest T) (hr.mono (by decide)) (by rfl) T.d_lowest.g T.d_lowest.F.kp T.d_lowest.b .nil pass0 (pa_cons (pe_op op_mulW (pe_ix ix_tup (pv 0) pe_int (fun _ _ => rfl)) (pe_ix ix_tup (pv 1) pe_int (fun _ _ => rfl))) (pa_cons (pe_op op_mulW (pe_ix ix_tup (pv 0) pe_int (fun _ _ => rfl)) (pe_ix ix_tup (pv 1) pe_int (fun _ _ => rfl))) pa_nil))))), ?_⟩
    have F := @ep_var K (start n_divide [u, v]) H u b q 0 rfl f
    have G := @ep_var K (start n_divide [u, v]) H v c r 1 rfl g
    have x := f.bd
    have y := g.bd
    exact s_retP (ep_Low (b := b + c + 1) (ev_mulW (ev_0 F) (ev_1 G) (mulW x.1 (bd_den y) (by omega))) (ev_mulW (ev_1 F) (ev_0 G) (mulW (bd_den x) y.1 (by omega)))
      (Int.mul_ne_zero (den_ne q) (num_ne h0)) (lt_pow_mono (Nat.le_succ _) (bn_mul x.1 (bd_den y))) (lt_pow_mono (Nat.le_succ _) (bn_mul (bd_den x) y.1)) hl (div_eq q r)) fun z H1 e w => k z H1 e w

/-- above 0 and below 1 -/
def prpB (d : PyData) : Bool := frB d && (decide (0 < (frQ d).num) && decide ((frQ d).num < ((frQ d).den : Int)))
def spLt (K : PySem.W.Frag) : Sp := fun vs H Q _ => ∃ (u v : V) (b c : Nat) (q r : Rat), vs = [u, v] ∧ Fr K b q u H ∧ Fr K c r v H ∧ b + c ≤ 8000 ∧ ∀ H', Ex H H' → Q (.bl (decide (q < r))) H'
theorem lt_num (q r : Rat) : decide (q.num * (r.den : Int) < r.num * (q.den : Int)) = decide (q < r) := by
  rw [Bool.eq_iff_iff, decide_eq_true_iff, decide_eq_true_iff]
  exact (Rat.lt_iff q r).symm
theorem ok_is_below (T : Txt K mg) : FnOk P w K mg base CX0 1 T.d_is_below.a T.d_is_below.fd ["one", "other"] (spLt K) := by
  refine T.d_is_below.F.ok sc_is_below (fun vs H Q E h => ?_) (fun cdv A outer s H vs Q E hr h => ?_)
  · obtain ⟨u, v, b, c, q, r, rfl, _⟩ := h
    rfl
  · obtain ⟨u, v, b, c, q, r, rfl, f, g, hl, k⟩ := h
    refine ⟨_, (pss_one (ps_ret (pe_cmpR op_lt (pe_op op_mulW (pe_ix ix_tup (pv 0) pe_int (fun _ _ => rfl)) (pe_ix ix_tup (pv 1) pe_int (fun _ _ => rfl))) (pe_op op_mulW (pe_ix ix_tup (pv 1) pe_int (fun _ _ => rfl)) (pe_ix ix_tup (pv 0) pe_int (fun _ _ => rfl))) (nomark _)))), ?_⟩
    have F := @ep_var K (start n_is_below [u, v]) H u b q 0 rfl f
    have G := @ep_var K (start n_is_below [u, v]) H v c r 1 rfl g
    have x := f.bd
    have y := g.bd
    refine s_ret (ev_op (ev_mulW (ev_0 F) (ev_1 G) (mulW x.1 (bd_den y) (by omega))) (ev_mulW (ev_0 G) (ev_1 F) (mulW y.1 (bd_den x) (by omega))) rv_I0) fun H1 e => ?_
    rw [lt_num]
    exact k H1 e
/-- the greatest of some, from m on -/
def maxQ : Rat → List Rat → Rat
  | m, [] => m
  | m, q :: qs => maxQ (if m < q then q else m) qs
theorem maxQ_app (m : Rat) : ∀ (xs : List Rat) (q : Rat), maxQ m (xs ++ [q]) = if maxQ m xs < q then q else maxQ m xs
  | [], q => rfl
  | x :: xs, q => by
    show maxQ (if m < x then x else m) (xs ++ [q]) = _
    rw [maxQ_app]
    rfl
def spGreat (K : PySem.W.Frag) : Sp := fun vs H Q _ => ∃ (p l : Addr) (xs : List V) (qs : List Rat) (b : Nat), vs = [.ref l] ∧ H l = some (.lst xs) ∧ DqAll K p H xs (qs.map frd) ∧ (∀ q ∈ qs, Bd b q) ∧ b ≤ 4000 ∧ qs ≠ [] ∧
  ∀ z H', Ex H H' → Fr K b (maxQ (qs.headD 0) qs) z H' → Q z H'
theorem DqAll.fr_at {K : PySem.W.Frag} {p : Addr} {H : Hp} {xs : List V} {qs : List Rat} {b i : Nat} {x : V} (h : DqAll K p H xs (qs.map frd)) (hb : ∀ q ∈ qs, Bd b q) (e : xs[i]? = some x) : ∃ q, qs[i]? = some q ∧ Fr K b q x H := by
  have il : i < xs.length := (List.getElem?_eq_some_iff.mp e).1
  have l := h.len
  rw [List.length_map] at l
  have e2 : qs[i]? = some qs[i] := List.getElem?_eq_getElem (by omega)
  obtain ⟨x', h1, h2⟩ := h.get (j := i) (dj := frd qs[i]) (by rw [List.getElem?_map, e2]; rfl)
  rw [e] at h1
  cases h1
  refine ⟨_, e2, ?_⟩
  have := h2.fr (b := b) (frB_frd _) (by rw [frQ_frd]; exact hb _ (List.getElem_mem _))
  rwa [frQ_frd] at this
theorem ok_greatest (T : Txt K mg) : FnOk P w K mg base CX0 2 T.d_greatest.a T.d_greatest.fd ["fractions"] (spGreat K) := by
  refine T.d_greatest.F.ok sc_greatest (fun vs H Q E h => ?_) (fun cdv A outer s H vs Q E hr h => ?_)
  · obtain ⟨p, l, xs, qs, b, rfl, _⟩ := h
    rfl
  · obtain ⟨p, l, xs, qs, b, rfl, hl, hA, hb, b4, hne, k⟩ := h
    refine ⟨_, (pss_cons (ps_set (i := 1) sc_greatest.nd rfl (Or.inl rfl) (pe_ix ix_list (pv 0) pe_int (fun _ _ => rfl)))
      (pss_cons (ps_for PassesOwn.never rfl (pi_list (pv 0)) (pg_name (i := 2) sc_greatest.nd rfl (Or.inl rfl)) (pss_one (ps_if (pt_val (pe_call (ok_is_below T) (hr.mono (by decide)) (by rfl) T.d_is_below.g T.d_is_below.F.kp T.d_is_below.b .nil pass0 (pa_cons (pv 1) (pa_cons (pv 2) pa_nil)))) (pss_one (ps_set (i := 1) sc_greatest.nd rfl (Or.inl rfl) (pv 2))) pss_nil)))
      (pss_one (ps_ret (pv 1))))), ?_⟩
    have xl : xs.length = qs.length := by rw [hA.len, List.length_map]
    cases qs with
    | nil => exact absurd rfl hne
    | cons q0 qs =>
    obtain ⟨x0, hx0⟩ : ∃ x0, xs[0]? = some x0 := ⟨_, List.getElem?_eq_getElem (by rw [xl]; exact Nat.succ_pos _)⟩
    obtain ⟨q0', e0, f0⟩ := hA.fr_at hb hx0
    cases e0
    refine n_seq ?_
    refine ⟨_, rfl, l, xs, 0, x0, rfl, rfl, SqL.of hl, atI_nat (j := 0) hx0, ?_⟩
    dsimp only
    refine n_seq ?_
    refine ⟨_, rfl, l, rfl, ⟨_, SqL.of hl⟩, ?_⟩
    refine for_list (K := K) (a := l) (xs := xs) (fun i σ G => Ex H G ∧ ∃ (z : V) (y : Option V), σ = [some (.ref l), some z, y] ∧ Fr K b (maxQ q0 ((q0 :: qs).take i)) z G) ⟨Ex.refl H, x0, none, rfl, f0⟩ (fun i σ G _ h => SqL.of (h.1 _ _ hl)) ?_ ?_
    · rintro i x σ G hx ⟨ex, z, y, rfl, fz⟩
      obtain ⟨q, eq, fx⟩ := (DqAll.ex ex _ _ hA).fr_at hb hx
      refine n_name ?_
      dsimp only
      have e1 : (q0 :: qs).take (i + 1) = (q0 :: qs).take i ++ [q] := by
        rw [List.take_succ, eq]
        rfl
      refine ⟨_, rfl, _, rfl, z, x, b, b, _, q, rfl, fz, fx, by omega, fun G2 e2 => ⟨_, rfl, ?_⟩⟩
      by_cases c : maxQ q0 ((q0 :: qs).take i) < q
      · rw [decide_eq_true c]
        refine iteT ?_
        refine ⟨_, rfl, ?_⟩
        refine ⟨ex.trans e2, x, _, rfl, ?_⟩
        rw [e1, maxQ_app, if_pos c]
        exact fx.ex e2
      · rw [decide_eq_false c]
        refine iteF ?_
        refine n_next ?_
        refine ⟨ex.trans e2, z, _, rfl, ?_⟩
        rw [e1, maxQ_app, if_neg c]
        exact fz.ex e2
    · rintro σ G ⟨ex, z, y, rfl, fz⟩
      rw [xl, List.take_length] at fz
      exact ⟨_, rfl, k z G ex fz⟩
end
def spNeg (K : PySem.W.Frag) : Sp := fun vs H Q _ => ∃ (u : V) (b : Nat) (q : Rat), vs = [u] ∧ Fr K b q u H ∧ ∀ z H', Ex H H' → Fr K b (-q) z H' → Q z H'
def posZ (d : PyData) : Bool := frB d && decide (0 ≤ (frQ d).num)
section
variable {P : Program} {w : World} {K : PySem.W.Frag} {mg : Str → Option Value} {base : Heap}
theorem ok_subtract (T : Txt K mg) : FnOk P w K mg base CX0 2 T.d_subtract.a T.d_subtract.fd ["one", "other"] (sp2 K (fun _ => True) fun q r => q - r) := by
  refine T.d_subtract.F.ok sc_subtract (fun vs H Q E h => ?_) (fun cdv A outer s H vs Q E hr h => ?_)
  · obtain ⟨u, v, b, c, q, r, rfl, _⟩ := h
    rfl
  · obtain ⟨u, v, b, c, q, r, rfl, f, g, hl, _, k⟩ := h
    refine ⟨_, (pss_one (ps_ret (pe_call (ok_lowest T) (hr.mono (by decide)) (by rfl) T.d_lowest.g T.d_lowest.F.kp T.d_lowest.b .nil pass0 (pa_cons (pe_op op_sub (pe_op op_mulW (pe_ix ix_tup (pv 0) pe_int (fun _ _ => rfl)) (pe_ix ix_tup (pv 1) pe_int (fun _ _ => rfl))) (pe_op op_mulW (pe_ix ix_tup (pv 1) pe_int (fun _ _ => rfl)) (pe_ix ix_tup (pv 0) pe_int (fun _ _ => rfl)))) (pa_cons (pe_op op_mulW (pe_ix ix_tup (pv 0) pe_int (fun _ _ => rfl)) (pe_ix ix_tup (pv 1) pe_int (fun _ _ => rfl))) pa_nil))))), ?_⟩
    have F := @ep_var K (start n_subtract [u, v]) H u b q 0 rfl f
    have G := @ep_var K (start n_subtract [u, v]) H v c r 1 rfl g
    have x := f.bd
    have y := g.bd
    exact s_retP (ep_Low (b := b + c + 1) (ev_sub (ev_mulW (ev_0 F) (ev_1 G) (mulW x.1 (bd_den y) (by omega))) (ev_mulW (ev_0 G) (ev_1 F) (mulW y.1 (bd_den x) (by omega)))) (ev_mulW (ev_1 F) (ev_1 G) (mulW (bd_den x) (bd_den y) (by omega)))
      (Int.mul_ne_zero (den_ne q) (den_ne r)) (bn_sub (bn_mul x.1 (bd_den y)) (by rw [Nat.add_comm b c]; exact bn_mul y.1 (bd_den x))) (lt_pow_mono (Nat.le_succ _) (bn_mul (bd_den x) (bd_den y))) hl (sub_eq q r)) fun z H1 e w => k z H1 e w
theorem ok_negative (T : Txt K mg) : FnOk P w K mg base CX0 1 T.d_negative.a T.d_negative.fd ["amount"] (spNeg K) := by
  refine T.d_negative.F.ok sc_negative (fun vs H Q E h => ?_) (fun cdv A outer s H vs Q E hr h => ?_)
  · obtain ⟨u, b, q, rfl, _⟩ := h
    rfl
  · obtain ⟨u, b, q, rfl, f, k⟩ := h
    refine ⟨_, (pss_one (ps_ret (pe_tup (pa_cons (pe_un un_neg (pe_ix ix_tup (pv 0) pe_int (fun _ _ => rfl))) (pa_cons (pe_ix ix_tup (pv 0) pe_int (fun _ _ => rfl)) pa_nil))))), ?_⟩
    have F := @ep_var K (start n_negative [u]) H u b q 0 rfl f
    have x := f.bd
    exact s_retP (ep_tup (b := b) (ev_neg (ev_0 F)) (ev_1 F) (Rat.neg_num q).symm (by rw [Rat.neg_den]) ⟨by rw [Rat.neg_num, Int.natAbs_neg]; exact x.1, by rw [Rat.neg_den]; exact x.2⟩) fun z H1 e w => k z H1 e w
theorem ok_is_from_zero (T : Txt K mg) : FnOk P w K mg base CX0 3 T.d_is_from_zero.a T.d_is_from_zero.fd ["value"] (spIsD K Any posZ) := by
  refine T.d_is_from_zero.F.ok sc_is_from_zero (fun vs H Q E h => ?_) (fun cdv A outer s H vs Q E hr h => ?_)
  · obtain ⟨p, v, d, rfl, _⟩ := h
    rfl
  · obtain ⟨p, v, d, rfl, hd, _, k⟩ := h
    refine ⟨_, (pss_one (ps_ret (pe_and (pe_call (ok_is_fraction T) (hr.mono (by decide)) (by rfl) T.d_is_fraction.g T.d_is_fraction.F.kp T.d_is_fraction.b .nil pass0 (pa_cons (pv 0) pa_nil)) (pe_one (pe_cmpR op_ge (pe_ix ix_tup (pv 0) pe_int (fun _ _ => rfl)) pe_int (nomark _)))))), ?_⟩
    refine s_ret (ev_andV (b := decide (0 ≤ (frQ d).num)) (ev_isD (ev_var rfl) hd trivial) fun hb => ?_) fun H1 e => k H1 e
    have hq := frB_iff hb
    have hd' : Dq K p H v (.tuple [.int (frQ d).num, .int ((frQ d).den : Int)]) := by
      rw [hq] at hd
      exact hd
    intro H1 e1 Q kk
    refine ed_ix (K := K) (p := p) (j := 0) rfl hd' rfl H1 e1 _ fun x H2 e2 q => ?_
    cases q with
    | int n => exact ⟨_, _, rfl, rfl, kk H2 e2⟩
end
section
variable {P : Program} {w : World} {K : PySem.W.Frag} {mg : Str → Option Value} {base : Heap}
theorem ok_is_above_zero (T : Txt K mg) : FnOk P w K mg base CX0 3 T.d_is_above_zero.a T.d_is_above_zero.fd ["value"] (spIsD K Any posB) := by
  refine T.d_is_above_zero.F.ok sc_is_above_zero (fun vs H Q E h => ?_) (fun cdv A outer s H vs Q E hr h => ?_)
  · obtain ⟨p, v, d, rfl, _⟩ := h
    rfl
  · obtain ⟨p, v, d, rfl, hd, _, k⟩ := h
    refine ⟨_, (pss_one (ps_ret (pe_and (pe_call (ok_is_fraction T) (hr.mono (by decide)) (by rfl) T.d_is_fraction.g T.d_is_fraction.F.kp T.d_is_fraction.b .nil pass0 (pa_cons (pv 0) pa_nil)) (pe_one (pe_cmpR op_gt (pe_ix ix_tup (pv 0) pe_int (fun _ _ => rfl)) pe_int (nomark _)))))), ?_⟩
    refine s_ret (ev_andV (b := decide (0 < (frQ d).num)) (ev_isD (ev_var rfl) hd trivial) fun hb => ?_) fun H1 e => k H1 e
    have hq := frB_iff hb
    have hd' : Dq K p H v (.tuple [.int (frQ d).num, .int ((frQ d).den : Int)]) := by
      rw [hq] at hd
      exact hd
    intro H1 e1 Q kk
    refine ed_ix (K := K) (p := p) (j := 0) rfl hd' rfl H1 e1 _ fun x H2 e2 q => ?_
    cases q with
    | int n => exact ⟨_, _, rfl, rfl, kk H2 e2⟩
end
theorem take_snoc {α : Type} {ns : List α} {i : Nat} {n : α} (h : ns[i]? = some n) : ns.take (i + 1) = ns.take i ++ [n] := by
  rw [List.take_succ, h]
  rfl
theorem notF {b : Bool} (h : (!b) = true) : b = false := by cases b <;> first | rfl | cases h
theorem notT {b : Bool} (h : (!b) = false) : b = true := by cases b <;> first | rfl | cases h
def nbB (d : PyData) (c : Int) : Bool := isWh d && (decide (0 ≤ ival d) && decide (ival d < c))
def spNBd (K : PySem.W.Frag) : Sp := fun vs H Q _ => ∃ (p : Addr) (v : V) (d : PyData) (c : Int), vs = [v, .int c] ∧ Dq K p H v d ∧ ∀ H', Ex H H' → Q (.bl (nbB d c)) H'
theorem ev_nbd {K : PySem.W.Frag} {p : Addr} {H : Hp} {v : V} {d : PyData} {σ : L2.St} {E : XK} {te tc : TE} {c : Int} (he : Ev te σ H v) (hd : Dq K p H v d) (hc : Ev tc σ H (.int c)) : Ev (tCall (spNBd K) [] E (tCons te (tCons tc tNil))) σ H (.bl (nbB d c)) := fun H1 e1 Q k =>
  he H1 e1 _ fun H2 e2 => hc H2 (e1.trans e2) _ fun H3 e3 => ⟨p, v, d, c, rfl, Dq.ex ((e1.trans e2).trans e3) _ _ hd, fun H4 e4 => k H4 ((e2.trans e3).trans e4)⟩
theorem posZ_frd {q : Rat} (h : 0 ≤ q) : posZ (frd q) = true := by
  unfold posZ
  rw [frB_frd, frQ_frd, Bool.true_and]
  exact decide_eq_true (Rat.num_nonneg.mpr h)
section
variable {P : Program} {w : World} {K : PySem.W.Frag} {mg : Str → Option Value} {base : Heap}
theorem ok_is_number_below (T : Txt K mg) : FnOk P w K mg base CX0 2 T.d_is_number_below.a T.d_is_number_below.fd ["value", "count"] (spNBd K) := by
  refine T.d_is_number_below.F.ok sc_is_number_below (fun vs H Q E h => ?_) (fun cdv A outer s H vs Q E hr h => ?_)
  · obtain ⟨p, v, d, c, rfl, _⟩ := h
    rfl
  · obtain ⟨p, v, d, c, rfl, hd, k⟩ := h
    refine ⟨_, (pss_one (ps_ret (pe_and (pe_call (ok_is_whole T) (hr.mono (by decide)) (by rfl) T.d_is_whole.g T.d_is_whole.F.kp T.d_is_whole.b .nil pass0 (pa_cons (pv 0) pa_nil)) (pe_one (pe_chain op_le op_lt pe_int (pv 0) (pv 1)))))), ?_⟩
    refine s_ret (ev_andV (a := isWh d) (b := decide (0 ≤ ival d) && decide (ival d < c)) (ev_isD (ev_var rfl) hd trivial) fun hb => ?_) fun H1 e => k H1 e
    obtain ⟨rfl, _⟩ := hd.ival hb
    exact ev_chain ev_c (ev_var rfl) (ev_var rfl) (fun H => rv_I0) fun H => rv_I0
def spAll (K : PySem.W.Frag) (T : Addr) : Sp := fun vs H Q _ => ∃ (yl : Addr) (qs : Qs) (b : Nat), vs = [.ref yl] ∧ PrsAt K H yl (prs qs) ∧ (∀ p ∈ qs, Bd b p.2) ∧ b * qs.length + b + qs.length + 1 ≤ 3000 ∧ GxR.TabG H T ∧
  ∀ z H', ExB T H H' → GxR.TabG H' T → Fr K (b * qs.length + b + qs.length + 1) (sumQ qs) z H' → Q z H'
theorem ok_add_all (T : Txt K mg) (tb_add_all : GxR.TabB base mg T.c_add_all T.P_add_all) : FnOk P w K mg base CX0 2 T.d_add_all.a T.d_add_all.fd ["fractions"] (spAll K T.P_add_all) := by
  refine okC T.d_add_all.F T.h_add_all sc_add_all (fun vs H Q E h => ?_) (fun A outer s H vs Q E hr h => ?_)
  · obtain ⟨yl, qs, b, rfl, _⟩ := h
    rfl
  · obtain ⟨yl, qs, b, rfl, hL, hb, hl, hT, k⟩ := h
    refine ⟨_, (pss_cons (ps_set (i := 1) sc_add_all.nd rfl (Or.inr rfl) pe_int)
      (pss_cons (ps_for PassesOwn.never rfl (pi_list (pv 0)) (pg_tup (by rfl) (pgs_cons (pg_name (i := 2) sc_add_all.nd rfl (Or.inl rfl)) (pgs_cons (pg_name (i := 3) sc_add_all.nd rfl (Or.inl rfl)) pgs_nil))) (pss_one (ps_set (i := 1) sc_add_all.nd rfl (Or.inr rfl) (pe_op op_mulW (pe_op op_fdivZ (pv 1) (pe_callBfun cr_gcd (by rfl) T.n_gcd (pa_cons (pv 1) (pa_cons (pv 3) pa_nil)))) (pv 3)))))
      (pss_one (ps_ret (pe_call (ok_lowest T) (hr.mono (by decide)) (by rfl) T.d_lowest.g T.d_lowest.F.kp T.d_lowest.b .nil pass0 (pa_cons (pe_sumP (ic := 1) hr (by rfl) T.n_sum tb_add_all rfl ⟨rfl, rfl, by decide, rfl, rfl, rfl, rfl, by decide, by decide, fun _ => rfl⟩ rfl rfl (pv 0) (elt_cut ⟨rfl, rfl, by decide, rfl, rfl, rfl, rfl, by decide, by decide, fun _ => rfl⟩) (fun _ => rfl)) (pa_cons (pv 1) pa_nil))))))), ?_⟩
    have at_ : ∀ (i : Nat) (x : V), ((prs qs).map fun p => V.ref p.1)[i]? = some x → ∃ p : Addr × Rat, qs[i]? = some p ∧ x = .ref p.1 ∧ p ∈ qs := by
      intro i x hx
      unfold prs at hx
      rw [List.map_map, List.getElem?_map] at hx
      cases hq : qs[i]? with
      | none =>
        rw [hq] at hx
        cases hx
      | some p =>
        rw [hq] at hx
        cases hx
        exact ⟨p, rfl, rfl, List.mem_of_getElem? hq⟩
    have sq : ∀ p ∈ qs, SqT K H p.1 [.int p.2.num, .int (p.2.den : Int)] := fun p hp => hL.2 _ (List.mem_map.mpr ⟨p, hp, rfl⟩)
    have len : ((prs qs).map fun p => V.ref p.1).length = qs.length := by rw [List.length_map, prs, List.length_map]
    refine n_seq (n_c ?_)
    dsimp only
    refine n_seq ?_
    refine ⟨.ref yl, rfl, yl, rfl, ⟨_, hL.1⟩, ?_⟩
    refine for_list (K := K) (a := yl) (xs := (prs qs).map fun p => V.ref p.1) (fun i σ H' => H' = H ∧ ∃ (d : Int) (s2 s3 : Option V), σ = [some (.ref yl), some (.int d), s2, s3, none] ∧ 0 < d ∧ d.natAbs < 2 ^ (b * i + 1) ∧ ∀ (j : Nat) (p : Addr × Rat), j < i → qs[j]? = some p → (p.2.den : Int) ∣ d)
      ⟨rfl, 1, none, none, rfl, by decide, by simp, fun j p hj => absurd hj (by omega)⟩ (fun i σ H' _ ⟨e, _⟩ => by subst e; exact hL.1) ?_ ?_
    · rintro i x σ H' hx ⟨rfl, d, s2, s3, rfl, d0, dB, dD⟩
      obtain ⟨p, hp, rfl, hm⟩ := at_ i x hx
      have e0 := den_pos p.2
      have eB := bd_den (hb p hm)
      obtain ⟨l1, l2, l3, l4⟩ := lcm_step d0 e0
      have gp : 0 < Nat.gcd d.natAbs (p.2.den : Int).natAbs := gcd_pos (n := d) (d := (p.2.den : Int)) (by omega)
      have gl : Nat.gcd d.natAbs (p.2.den : Int).natAbs ≤ (p.2.den : Int).natAbs := Nat.gcd_le_right _ (by omega)
      have ib : b * i ≤ b * qs.length := Nat.mul_le_mul_left _ (Nat.le_of_lt (List.getElem?_eq_some_iff.mp hp).1)
      have hq1 : d.fdiv ((Nat.gcd d.natAbs (p.2.den : Int).natAbs : Nat) : Int) ≤ d ∧ 0 ≤ d.fdiv ((Nat.gcd d.natAbs (p.2.den : Int).natAbs : Nat) : Int) := by
        have h1 : ((Nat.gcd d.natAbs (p.2.den : Int).natAbs : Nat) : Int) ∣ d := Int.ofNat_dvd_left.mpr (Nat.gcd_dvd_left _ _)
        exact (fdiv_le (by omega) h1 d0).symm
      refine ⟨p.1, _, rfl, sq p hm, rfl, _, _, rfl, _, _, rfl, rfl, ?_⟩
      refine ⟨_, rfl, _, rfl, _, rfl, d, (p.2.den : Int), rfl, d, _, rfl, rfl, ⟨by omega, ?_⟩, _, rfl, _, _, rfl, rfl, ?_, ?_⟩
      · exact log_lt (show (((Nat.gcd d.natAbs (p.2.den : Int).natAbs : Nat) : Int)).natAbs < 2 ^ b by omega) (by omega : b ≤ 9000) (by decide)
      · exact mulW (a := b * i + 1) (b := b) (by omega) eB (by omega)
      · refine ⟨rfl, lcmN d (p.2.den : Int), _, _, rfl, l1, ?_, fun j q hj hq => ?_⟩
        · have hm2 : d.natAbs * (p.2.den : Int).natAbs < 2 ^ (b * i + 1 + b) := lt_pow_mul dB eB
          have : (lcmN d (p.2.den : Int)).natAbs ≤ d.natAbs * (p.2.den : Int).natAbs := by
            rw [← Int.natAbs_mul]
            omega
          rw [Nat.mul_succ, show b * i + b + 1 = b * i + 1 + b by omega]
          omega
        · by_cases h : j < i
          · exact Int.dvd_trans (dD j q h hq) l2
          · obtain rfl : j = i := by omega
            rw [hp] at hq
            cases hq
            exact l3
    · rintro σ H' ⟨rfl, d, s2, s3, rfl, d0, dB, dD⟩
      rw [len] at dB dD
      have dv : ∀ p ∈ qs, (p.2.den : Int) ∣ d := fun p hp => by
        obtain ⟨j, hj, e⟩ := List.getElem_of_mem hp
        exact dD j p hj (by rw [List.getElem?_eq_getElem hj, e])
      have oks : ∀ p ∈ prs qs, okCut p.2.1 p.2.2 d ∧ (gCut p.2.1 p.2.2 d).natAbs < 2 ^ (b + (b * qs.length + 1)) := fun p hp => by
        obtain ⟨q, hq, rfl⟩ := List.mem_map.mp hp
        exact cut_ok (hb q hq) d0 dB (dv q hq) (by omega)
      refine ⟨.ref yl, rfl, yl, prs qs, d, rfl, hL, fun p hp => (oks p hp).1, rfl, hT, fun H2 tab => ?_⟩
      refine ⟨_, rfl, sumP (prs qs) d gCut, d, b * qs.length + b + qs.length + 1, rfl, by omega, ?_, lt_pow_mono (by omega) dB, by omega, fun z H3 e3 f => ?_⟩
      · have h1 := sumP_abs (M := 2 ^ (b + (b * qs.length + 1))) (prs qs) fun p hp => Nat.le_of_lt (oks p hp).2
        have h2 : (prs qs).length = qs.length := by rw [prs, List.length_map]
        rw [h2] at h1
        have h3 : qs.length * 2 ^ (b + (b * qs.length + 1)) < 2 ^ qs.length * 2 ^ (b + (b * qs.length + 1)) := Nat.mul_lt_mul_of_pos_right Nat.lt_two_pow_self (Nat.two_pow_pos _)
        rw [← Nat.pow_add, show qs.length + (b + (b * qs.length + 1)) = b * qs.length + b + qs.length + 1 by omega] at h3
        omega
      · rw [sum_divInt (by omega) dv] at f
        refine k z H3 (fun c o nc hc => e3 _ _ ?_) ?_ f
        · rw [tab.2 c nc]
          exact hc
        · obtain ⟨tbs, h1, h2⟩ := tab.1
          exact ⟨tbs, e3 _ _ h1, h2⟩
end
/-! ### the law's own arithmetic -/
section
variable {K : PySem.W.Frag} {σ : L2.St} {H : Hp} {ta tb : TE} {b c n : Nat} {q r : Rat}
def spLowL (K : PySem.W.Frag) : Sp := fun vs H Q _ => ∃ (n d : Int) (b : Nat), vs = [.int n, .int d] ∧ 0 < d ∧ n.natAbs < 2 ^ b ∧ d.natAbs < 2 ^ b ∧ b ≤ 1900 ∧ ∀ z H', Ex H H' → Fr K b (Rat.divInt n d) z H' → Q z H'
def sp2L (K : PySem.W.Frag) (ok : Rat → Prop) (f : Rat → Rat → Rat) : Sp := fun vs H Q _ => ∃ (u v : V) (b c : Nat) (q r : Rat), vs = [u, v] ∧ Fr K b q u H ∧ Fr K c r v H ∧ b + c + 1 ≤ 1900 ∧ ok r ∧
  ∀ z H', Ex H H' → Fr K (b + c + 1) (f q r) z H' → Q z H'
theorem ep_2L {ok : Rat → Prop} {f : Rat → Rat → Rat} {E : XK} (ha : EvP ta σ H (Fr K b q)) (hb : EvP tb σ H (Fr K c r)) (hk : ok r) (hl : b + c + 1 ≤ 1900) (hn : b + c + 1 = n) : EvP (tCall (sp2L K ok f) [] E (tCons ta (tCons tb tNil))) σ H (Fr K n (f q r)) := fun H1 a Q k =>
  ha H1 a _ fun x H2 a2 g => hb H2 (a.trans a2) _ fun y H3 a3 h => ⟨x, y, b, c, q, r, rfl, g.ex a3, h, hl, hk, fun z H' e w => k z H' ((a2.trans a3).trans e) (by subst hn; exact w)⟩
theorem ep_LowL {E : XK} {x y : Int} (ha : Ev ta σ H (.int x)) (hb : Ev tb σ H (.int y)) (hd : 0 < y) (hx : x.natAbs < 2 ^ b) (hy : y.natAbs < 2 ^ b) (hl : b ≤ 1900) (hq : Rat.divInt x y = q) : EvP (tCall (spLowL K) [] E (tCons ta (tCons tb tNil))) σ H (Fr K b q) := fun H1 a Q k =>
  ha H1 a _ fun H2 a2 => hb H2 (a.trans a2) _ fun H3 a3 => ⟨x, y, b, rfl, hd, hx, hy, hl, fun z H' e w => k z H' ((a2.trans a3).trans e) (by subst hq; exact w)⟩
theorem denI_pos (q : Rat) : (0 : Int) < q.den := by
  have := q.den_pos
  omega
end
theorem nat_abs_if (n : Int) : (if n < 0 then -n else n) = ((n.natAbs : Nat) : Int) := by
  by_cases h : n < 0
  · rw [if_pos h]; omega
  · rw [if_neg h]; omega
def AllFr (K : PySem.W.Frag) (b : Nat) (H : Hp) (xs : List V) (qs : List Rat) : Prop := xs.length = qs.length ∧ ∀ (i : Nat) (x : V) (q : Rat), xs[i]? = some x → qs[i]? = some q → Fr K b q x H
theorem AllFr.ex {K : PySem.W.Frag} {b : Nat} {H H' : Hp} {xs : List V} {qs : List Rat} (e : Ex H H') (h : AllFr K b H xs qs) : AllFr K b H' xs qs := ⟨h.1, fun i x q hx hq => (h.2 i x q hx hq).ex e⟩
section
variable {P : Program} {w : World} {K : PySem.W.Frag} {mg : Str → Option Value} {base : Heap}
theorem ok__law_low (T : Txt K mg) : FnOk P w K mg base CX0 1 T.d__law_low.a T.d__law_low.fd ["_law_top", "_law_bottom"] (spLowL K) := by
  refine T.d__law_low.F.ok sc__law_low (fun vs H Q E h => ?_) (fun cdv A outer s H vs Q E hr h => ?_)
  · obtain ⟨n, d, b, rfl, _⟩ := h
    rfl
  · obtain ⟨n, d, b, rfl, hd, hn, hb, hl, k⟩ := h
    refine ⟨_, (pss_cons (ps_par (i := 2) (j := 3) (by rfl) sc__law_low.nd rfl rfl (by decide) rfl rfl (pa_cons (pe_callB call_abs (by rfl) T.n_abs (by decide +kernel) (pa_cons (pv 0) pa_nil)) (pa_cons (pv 1) pa_nil)) (by rfl))
      (pss_cons (ps_while PassesOwn.never (pt_cmpR op_ne (pv 3) pe_int (nomark _)) (pss_one (ps_par (i := 2) (j := 3) (by rfl) sc__law_low.nd rfl rfl (by decide) rfl rfl (pa_cons (pv 3) (pa_cons (pe_op op_mod (pv 2) (pv 3)) pa_nil)) (by rfl))))
      (pss_one (ps_ret (pe_tup (pa_cons (pe_op op_fdivZ (pv 0) (pv 2)) (pa_cons (pe_op op_fdivZ (pv 1) (pv 2)) pa_nil))))))), ?_⟩
    refine n_seq ?_
    refine ⟨_, rfl, n, rfl, _, rfl, _, _, rfl, ?_⟩
    rw [nat_abs_if]
    dsimp only
    have dn : d = ((d.natAbs : Nat) : Int) := by omega
    have hd0 : d ≠ 0 := by omega
    refine n_seq ?_
    refine while_by (fun σ G => G = H ∧ ∃ a c : Nat, σ = [some (.int n), some (.int d), some (.int a), some (.int c)] ∧ Nat.gcd a c = Nat.gcd n.natAbs d.natAbs)
      (fun σ _ => match σ[3]? with
        | some (some (V.int m)) => m.toNat
        | _ => 0) ⟨rfl, n.natAbs, d.natAbs, by rw [← dn]; rfl, rfl⟩ ?_ ?_
    · rintro σ G ⟨rfl, a, c, rfl, hg⟩
      refine ⟨_, rfl, rfl, _, rfl, ?_⟩
      by_cases hc : c = 0
      · subst hc
        refine iteF ?_
        have ha : a = Nat.gcd n.natAbs d.natAbs := gcd_end hg
        subst ha
        dsimp only
        have hG : Nat.gcd n.natAbs d.natAbs ≤ d.natAbs := Nat.gcd_le_right _ (by omega)
        have hp := gcd_pos (n := n) hd0
        have hz : ∀ i : Int, CDivZ i ((Nat.gcd n.natAbs d.natAbs : Nat) : Int) := fun _ => ⟨by omega, by
          have : ((Nat.gcd n.natAbs d.natAbs : Nat) : Int).natAbs = Nat.gcd n.natAbs d.natAbs := by omega
          rw [this]
          exact log_lt (Nat.lt_of_le_of_lt hG hb) (by omega : b ≤ 9000) (by decide)⟩
        have fd : ∀ i : Int, i.fdiv ((Nat.gcd n.natAbs d.natAbs : Nat) : Int) = i / ((Nat.gcd n.natAbs d.natAbs : Nat) : Int) := fun i => Int.fdiv_eq_ediv_of_nonneg i (by omega)
        have e := low_eq n d hd0 1 (by rw [if_neg (by omega)])
        rw [Int.one_mul, Int.one_mul] at e
        exact s_retP (ep_tup (b := b) (ev_fdivZ (ev_var rfl) (ev_var rfl) (hz _)) (ev_fdivZ (ev_var rfl) (ev_var rfl) (hz _)) (by rw [fd]; exact e.1) (by rw [fd]; exact e.2) (bd_divInt hd0 hn hb)) fun z H1 e w => k z H1 e w
      · have ne : (!decide (V.int ((c : Nat) : Int) = V.int 0)) = true := by
          rw [decide_eq_false (fun z => hc (by have := V.int.inj z; omega))]
          rfl
        rw [ne]
        refine iteT ?_
        have hc0 : 0 < (c : Int) := by omega
        refine ⟨_, rfl, _, rfl, _, rfl, a, c, rfl, rfl, hc0, _, _, rfl, ?_⟩
        refine ⟨⟨rfl, c, a % c, ?_, gcd_step hg⟩, ?_⟩
        · rw [Int.natCast_emod]
          rfl
        · show ((a : Int) % (c : Int)).toNat < (c : Int).toNat
          have := Nat.mod_lt a (show c > 0 by omega)
          rw [← Int.natCast_emod]
          omega
    · rintro σ G Q Q' hq ⟨x, h1, h2, b, h4, h5⟩
      exact ⟨x, h1, h2, b, h4, hq _ _ h5⟩
theorem ok__law_add (T : Txt K mg) : FnOk P w K mg base CX0 2 T.d__law_add.a T.d__law_add.fd ["_law_one", "_law_other"] (sp2L K (fun _ => True) fun q r => q + r) := by
  refine T.d__law_add.F.ok sc__law_add (fun vs H Q E h => ?_) (fun cdv A outer s H vs Q E hr h => ?_)
  · obtain ⟨u, v, b, c, q, r, rfl, _⟩ := h
    rfl
  · obtain ⟨u, v, b, c, q, r, rfl, f, g, hl, _, k⟩ := h
    refine ⟨_, (pss_one (ps_ret (pe_call (ok__law_low T) (hr.mono (by decide)) (by rfl) T.d__law_low.g T.d__law_low.F.kp T.d__law_low.b .nil pass0 (pa_cons (pe_op op_add (pe_op op_mulW (pe_ix ix_tup (pv 0) pe_int (fun _ _ => rfl)) (pe_ix ix_tup (pv 1) pe_int (fun _ _ => rfl))) (pe_op op_mulW (pe_ix ix_tup (pv 1) pe_int (fun _ _ => rfl)) (pe_ix ix_tup (pv 0) pe_int (fun _ _ => rfl)))) (pa_cons (pe_op op_mulW (pe_ix ix_tup (pv 0) pe_int (fun _ _ => rfl)) (pe_ix ix_tup (pv 1) pe_int (fun _ _ => rfl))) pa_nil))))), ?_⟩
    have F := @ep_var K (start n__law_add [u, v]) H u b q 0 rfl f
    have G := @ep_var K (start n__law_add [u, v]) H v c r 1 rfl g
    have x := f.bd
    have y := g.bd
    exact s_retP (ep_LowL (b := b + c + 1) (ev_add (ev_mulW (ev_0 F) (ev_1 G) (mulW x.1 (bd_den y) (by omega))) (ev_mulW (ev_0 G) (ev_1 F) (mulW y.1 (bd_den x) (by omega)))) (ev_mulW (ev_1 F) (ev_1 G) (mulW (bd_den x) (bd_den y) (by omega)))
      (Int.mul_pos (denI_pos q) (denI_pos r)) (bn_add (bn_mul x.1 (bd_den y)) (by rw [Nat.add_comm b c]; exact bn_mul y.1 (bd_den x))) (lt_pow_mono (Nat.le_succ _) (bn_mul (bd_den x) (bd_den y))) hl (add_eq q r)) fun z H1 e w => k z H1 e w
theorem ok__law_mul (T : Txt K mg) : FnOk P w K mg base CX0 2 T.d__law_mul.a T.d__law_mul.fd ["_law_one", "_law_other"] (sp2L K (fun _ => True) fun q r => q * r) := by
  refine T.d__law_mul.F.ok sc__law_mul (fun vs H Q E h => ?_) (fun cdv A outer s H vs Q E hr h => ?_)
  · obtain ⟨u, v, b, c, q, r, rfl, _⟩ := h
    rfl
  · obtain ⟨u, v, b, c, q, r, rfl, f, g, hl, _, k⟩ := h
    refine ⟨_, (pss_one (ps_ret (pe_call (ok__law_low T) (hr.mono (by decide)) (by rfl) T.d__law_low.g T.d__law_low.F.kp T.d__law_low.b .nil pass0 (pa_cons (pe_op op_mulW (pe_ix ix_tup (pv 0) pe_int (fun _ _ => rfl)) (pe_ix ix_tup (pv 1) pe_int (fun _ _ => rfl))) (pa_cons (pe_op op_mulW (pe_ix ix_tup (pv 0) pe_int (fun _ _ => rfl)) (pe_ix ix_tup (pv 1) pe_int (fun _ _ => rfl))) pa_nil))))), ?_⟩
    have F := @ep_var K (start n__law_mul [u, v]) H u b q 0 rfl f
    have G := @ep_var K (start n__law_mul [u, v]) H v c r 1 rfl g
    have x := f.bd
    have y := g.bd
    exact s_retP (ep_LowL (b := b + c + 1) (ev_mulW (ev_0 F) (ev_0 G) (mulW x.1 y.1 (by omega))) (ev_mulW (ev_1 F) (ev_1 G) (mulW (bd_den x) (bd_den y) (by omega)))
      (Int.mul_pos (denI_pos q) (denI_pos r)) (lt_pow_mono (Nat.le_succ _) (bn_mul x.1 y.1)) (lt_pow_mono (Nat.le_succ _) (bn_mul (bd_den x) (bd_den y))) hl (mul_eq q r)) fun z H1 e w => k z H1 e w
theorem ok__law_less (T : Txt K mg) : FnOk P w K mg base CX0 1 T.d__law_less.a T.d__law_less.fd ["_law_one", "_law_other"] (spLt K) := by
  refine T.d__law_less.F.ok sc__law_less (fun vs H Q E h => ?_) (fun cdv A outer s H vs Q E hr h => ?_)
  · obtain ⟨u, v, b, c, q, r, rfl, _⟩ := h
    rfl
  · obtain ⟨u, v, b, c, q, r, rfl, f, g, hl, k⟩ := h
    refine ⟨_, (pss_one (ps_ret (pe_cmpR op_lt (pe_op op_mulW (pe_ix ix_tup (pv 0) pe_int (fun _ _ => rfl)) (pe_ix ix_tup (pv 1) pe_int (fun _ _ => rfl))) (pe_op op_mulW (pe_ix ix_tup (pv 1) pe_int (fun _ _ => rfl)) (pe_ix ix_tup (pv 0) pe_int (fun _ _ => rfl))) (nomark _)))), ?_⟩
    have F := @ep_var K (start n__law_less [u, v]) H u b q 0 rfl f
    have G := @ep_var K (start n__law_less [u, v]) H v c r 1 rfl g
    have x := f.bd
    have y := g.bd
    refine s_ret (ev_op (ev_mulW (ev_0 F) (ev_1 G) (mulW x.1 (bd_den y) (by omega))) (ev_mulW (ev_0 G) (ev_1 F) (mulW y.1 (bd_den x) (by omega))) rv_I0) fun H1 e => ?_
    rw [lt_num]
    exact k H1 e
def spMost (K : PySem.W.Frag) : Sp := fun vs H Q _ => ∃ (l : Addr) (xs : List V) (qs : List Rat) (b : Nat), vs = [.ref l] ∧ SqL K H l xs ∧ AllFr K b H xs qs ∧ qs ≠ [] ∧ b ≤ 900 ∧ ∀ z q H', Ex H H' → Fr K b q z H' → q ∈ qs → (∀ r ∈ qs, r ≤ q) → Q z H'
theorem ok__law_most (T : Txt K mg) : FnOk P w K mg base CX0 2 T.d__law_most.a T.d__law_most.fd ["_law_some"] (spMost K) := by
  refine T.d__law_most.F.ok sc__law_most (fun vs H Q E h => ?_) (fun cdv A outer s H vs Q E hr h => ?_)
  · obtain ⟨l, xs, qs, b, rfl, _⟩ := h
    rfl
  · obtain ⟨l, xs, qs, b, rfl, hS, hA, ne, b9, k⟩ := h
    refine ⟨_, (pss_cons (ps_set (i := 1) sc__law_most.nd rfl (Or.inl rfl) (pe_ix ix_list (pv 0) pe_int (fun _ _ => rfl)))
      (pss_cons (ps_for PassesOwn.never rfl (pi_list (pv 0)) (pg_name (i := 2) sc__law_most.nd rfl (Or.inl rfl)) (pss_one (ps_set (i := 1) sc__law_most.nd rfl (Or.inl rfl) (pe_ifExp (pt_val (pe_call (ok__law_less T) (hr.mono (by decide)) (by rfl) T.d__law_less.g T.d__law_less.F.kp T.d__law_less.b .nil pass0 (pa_cons (pv 1) (pa_cons (pv 2) pa_nil)))) (pv 2) (pv 1)))))
      (pss_one (ps_ret (pv 1))))), ?_⟩
    obtain ⟨q0, qr, rfl⟩ : ∃ q0 qr, qs = q0 :: qr := by
      cases qs with
      | nil => exact absurd rfl ne
      | cons q0 qr => exact ⟨q0, qr, rfl⟩
    obtain ⟨x0, xr, rfl⟩ : ∃ x0 xr, xs = x0 :: xr := by
      cases xs with
      | nil => exact nomatch hA.1
      | cons x0 xr => exact ⟨x0, xr, rfl⟩
    have f0 := hA.2 0 x0 q0 rfl rfl
    refine n_seq ?_
    refine ⟨_, rfl, l, _, 0, x0, rfl, rfl, hS, atI_nat (show (x0 :: xr)[0]? = some x0 from rfl), ?_⟩
    dsimp only
    refine n_seq ?_
    refine ⟨_, rfl, l, rfl, ⟨_, hS⟩, ?_⟩
    refine for_list (K := K) (a := l) (xs := x0 :: xr) (fun i σ G => ∃ z y2 q, σ = [some (.ref l), some z, y2] ∧ Ex H G ∧ Fr K b q z G ∧ q ∈ q0 :: qr ∧ ∀ r ∈ (q0 :: qr).take i, r ≤ q) ⟨x0, none, q0, rfl, Ex.refl _, f0, List.mem_cons_self, fun r hr => by simp at hr⟩ (fun i σ G _ h => by
      obtain ⟨_, _, _, _, e, _⟩ := h
      exact ex_l e hS) ?_ ?_
    · rintro i x σ G hx ⟨z, y2, q, rfl, ex, fq, hq, hm⟩
      have il : i < (x0 :: xr).length := (List.getElem?_eq_some_iff.mp hx).1
      obtain ⟨r, hr⟩ : ∃ r, (q0 :: qr)[i]? = some r := ⟨_, List.getElem?_eq_getElem (by rw [← hA.1]; exact il)⟩
      have fr := (hA.2 i x r hx hr).ex ex
      refine n_name ?_
      dsimp only
      refine ⟨_, rfl, _, rfl, z, x, b, b, q, r, rfl, fq, fr, by omega, fun G1 e1 => ⟨_, rfl, ?_⟩⟩
      have ts := take_snoc hr
      by_cases c : q < r
      · rw [decide_eq_true c]
        refine iteT ?_
        refine ⟨_, rfl, x, _, r, rfl, ex.trans e1, fr.ex e1, List.mem_of_getElem? hr, fun s hs => ?_⟩
        rw [ts] at hs
        rcases List.mem_append.mp hs with h | h
        · have := hm s h
          grind
        · rw [List.mem_singleton.mp h]
          exact Rat.le_refl
      · rw [decide_eq_false c]
        refine iteF ?_
        refine ⟨_, rfl, z, _, q, rfl, ex.trans e1, fq.ex e1, hq, fun s hs => ?_⟩
        rw [ts] at hs
        rcases List.mem_append.mp hs with h | h
        · exact hm s h
        · rw [List.mem_singleton.mp h]
          grind
    · rintro σ G ⟨z, y2, q, rfl, ex, fq, hq, hm⟩
      rw [hA.1, List.take_of_length_le (Nat.le_refl _)] at hm
      exact ⟨_, rfl, k z q G ex fq hq hm⟩
end
/-! ### boxes: what a reserve is, and that the rule of reserves is best -/
abbrev Bx := Rat × List (Rat × Rat)
def mean (ps : List (Rat × Rat)) (f : Rat → Rat) : Rat := (ps.map fun x => x.1 * f x.2).sum
section
variable {ps qs : List (Rat × Rat)} {f g : Rat → Rat} {c z y : Rat}
theorem mean_cons {x : Rat × Rat} : mean (x :: ps) f = x.1 * f x.2 + mean ps f := by
  unfold mean
  rw [List.map_cons, List.sum_cons]
theorem mean_nil : mean [] f = 0 := rfl
theorem mul_leR {p a b : Rat} (hp : 0 < p) (h : a ≤ b) : p * a ≤ p * b := Rat.mul_le_mul_of_nonneg_left h (Rat.le_of_lt hp)
theorem mean_le : ∀ (ps : List (Rat × Rat)), (∀ x ∈ ps, 0 < x.1) → (∀ x ∈ ps, f x.2 ≤ g x.2) → mean ps f ≤ mean ps g
  | [], _, _ => Rat.le_refl
  | x :: ps, hp, h => by
    rw [mean_cons, mean_cons]
    have h1 := mul_leR (hp x List.mem_cons_self) (h x List.mem_cons_self)
    have h2 := mean_le ps (fun y hy => hp y (List.mem_cons_of_mem _ hy)) fun y hy => h y (List.mem_cons_of_mem _ hy)
    grind
theorem mean_congr : ∀ (ps : List (Rat × Rat)), (∀ x ∈ ps, f x.2 = g x.2) → mean ps f = mean ps g
  | [], _ => rfl
  | x :: ps, h => by
    rw [mean_cons, mean_cons, h x List.mem_cons_self, mean_congr ps fun y hy => h y (List.mem_cons_of_mem _ hy)]
theorem mean_sub : ∀ (ps : List (Rat × Rat)), mean ps (fun x => f x - g x) = mean ps f - mean ps g
  | [] => by rw [mean_nil, mean_nil, mean_nil]; grind
  | x :: ps => by
    rw [mean_cons, mean_cons, mean_cons, mean_sub ps]
    grind
theorem mean_add : ∀ (ps : List (Rat × Rat)), mean ps (fun x => f x + g x) = mean ps f + mean ps g
  | [] => by rw [mean_nil, mean_nil, mean_nil]; grind
  | x :: ps => by
    rw [mean_cons, mean_cons, mean_cons, mean_add ps]
    grind
theorem mean_const : ∀ (ps : List (Rat × Rat)), mean ps (fun _ => c) = (ps.map fun x => x.1).sum * c
  | [] => by rw [mean_nil]; show (0 : Rat) = 0 * c; grind
  | x :: ps => by
    rw [mean_cons, mean_const ps, List.map_cons, List.sum_cons]
    grind
theorem mean_swap (F : Rat → Rat → Rat) (qs : List (Rat × Rat)) : ∀ (ps : List (Rat × Rat)), mean ps (fun x => mean qs fun y => F x y) = mean qs fun y => mean ps fun x => F x y
  | [] => by
    rw [mean_nil]
    induction qs with
    | nil => rfl
    | cons q qs ih => rw [mean_cons, ← ih, mean_nil]; grind
  | x :: ps => by
    rw [mean_cons, mean_swap F qs ps]
    induction qs with
    | nil => simp only [mean_nil]; grind
    | cons q qs ih => simp only [mean_cons] at ih ⊢; grind
end
/-- what a box brings above a mark -/
def gain (ps : List (Rat × Rat)) (m : Rat) : Rat := mean ps fun v => if m < v then v - m else 0
def cntA (ps : List (Rat × Rat)) (t : Rat) : Rat := mean ps fun v => if v < t then 0 else 1
def sumA (ps : List (Rat × Rat)) (t : Rat) : Rat := mean ps fun v => if v < t then 0 else v
/-- the share that the prize t tells -/
def shareR (b : Bx) (t : Rat) : Rat := (sumA b.2 t - b.1) / cntA b.2 t
structure BxP (b : Bx) : Prop where
  c0 : 0 ≤ b.1
  ne : b.2 ≠ []
  p0 : ∀ x ∈ b.2, 0 < x.1
theorem mean_nn {f : Rat → Rat} {ps : List (Rat × Rat)} (hp : ∀ x ∈ ps, 0 < x.1) (h : ∀ x ∈ ps, 0 ≤ f x.2) : 0 ≤ mean ps f := by
  have := mean_le (f := fun _ => 0) (g := f) ps hp h
  rw [mean_const] at this
  grind
theorem cntA_pos {ps : List (Rat × Rat)} (hp : ∀ x ∈ ps, 0 < x.1) {t : Rat × Rat} (ht : t ∈ ps) : 0 < cntA ps t.2 := by
  induction ps with
  | nil => cases ht
  | cons x ps ih =>
    unfold cntA
    rw [mean_cons]
    have hx := hp x List.mem_cons_self
    have hr : 0 ≤ mean ps fun v => if v < t.2 then (0 : Rat) else 1 := mean_nn (fun y hy => hp y (List.mem_cons_of_mem _ hy)) fun y _ => by
      by_cases c : y.2 < t.2
      · rw [if_pos c]; decide
      · rw [if_neg c]; decide
    rcases List.mem_cons.mp ht with rfl | h
    · rw [if_neg (by grind)]
      grind
    · have := ih (fun y hy => hp y (List.mem_cons_of_mem _ hy)) h
      unfold cntA at this
      by_cases c : x.2 < t.2
      · rw [if_pos c]; grind
      · rw [if_neg c]; grind
/-- Σ over those from t on of (v - z) -/
def cutA (ps : List (Rat × Rat)) (t z : Rat) : Rat := mean ps fun v => if v < t then 0 else v - z
theorem cutA_eq (t z : Rat) : ∀ ps : List (Rat × Rat), cutA ps t z = sumA ps t - z * cntA ps t
  | [] => by unfold cutA sumA cntA; simp only [mean_nil]; grind
  | x :: ps => by
    have := cutA_eq t z ps
    unfold cutA sumA cntA at this ⊢
    simp only [mean_cons, this]
    by_cases c : x.2 < t
    · simp only [if_pos c]; grind
    · simp only [if_neg c]; grind
theorem share_le {b : Bx} {t z : Rat} (hc : 0 < cntA b.2 t) (h : shareR b t ≤ z) : cutA b.2 t z ≤ b.1 := by
  rw [cutA_eq]
  unfold shareR at h
  have h1 : (sumA b.2 t - b.1) / cntA b.2 t * cntA b.2 t = sumA b.2 t - b.1 := Rat.div_mul_cancel (by grind)
  have h2 := mul_leR hc h
  grind
theorem share_eq {b : Bx} {t : Rat} (hc : 0 < cntA b.2 t) : cutA b.2 t (shareR b t) = b.1 := by
  rw [cutA_eq]
  unfold shareR
  have h1 : (sumA b.2 t - b.1) / cntA b.2 t * cntA b.2 t = sumA b.2 t - b.1 := Rat.div_mul_cancel (by grind)
  grind
/-- the least prize above a mark, if there is one -/
theorem least_above (z : Rat) : ∀ ps : List (Rat × Rat), (∀ x ∈ ps, ¬ z < x.2) ∨ ∃ t ∈ ps, z < t.2 ∧ ∀ x ∈ ps, z < x.2 → t.2 ≤ x.2
  | [] => .inl fun x hx => by cases hx
  | x :: ps => by
    rcases least_above z ps with h | ⟨t, ht, zt, hm⟩
    · by_cases c : z < x.2
      · refine .inr ⟨x, List.mem_cons_self, c, fun y hy zy => ?_⟩
        rcases List.mem_cons.mp hy with rfl | hy
        · exact Rat.le_refl
        · exact absurd zy (h y hy)
      · exact .inl fun y hy => by
          rcases List.mem_cons.mp hy with rfl | hy
          · exact c
          · exact h y hy
    · by_cases c : z < x.2 ∧ x.2 < t.2
      · refine .inr ⟨x, List.mem_cons_self, c.1, fun y hy zy => ?_⟩
        rcases List.mem_cons.mp hy with rfl | hy
        · exact Rat.le_refl
        · have := hm y hy zy
          grind
      · refine .inr ⟨t, List.mem_cons_of_mem _ ht, zt, fun y hy zy => ?_⟩
        rcases List.mem_cons.mp hy with rfl | hy
        · grind
        · exact hm y hy zy
/-- a reserve: the greatest of the shares -/
structure IsRes (b : Bx) (z : Rat) : Prop where
  le : ∀ x ∈ b.2, shareR b x.2 ≤ z
  at_ : ∃ x ∈ b.2, shareR b x.2 = z
theorem res_gain {b : Bx} {z : Rat} (B : BxP b) (h : IsRes b z) : gain b.2 z = b.1 := by
  have up : gain b.2 z ≤ b.1 := by
    rcases least_above z b.2 with h0 | ⟨t, ht, zt, hm⟩
    · have : gain b.2 z = mean b.2 fun _ => 0 := mean_congr _ fun x hx => if_neg (h0 x hx)
      rw [this, mean_const]
      have := B.c0
      grind
    · have : gain b.2 z = cutA b.2 t.2 z := mean_congr _ fun x hx => by
        by_cases c : x.2 < t.2
        · rw [if_pos c, if_neg]
          intro hz
          have := hm x hx hz
          grind
        · rw [if_neg c, if_pos]
          grind
      rw [this]
      exact share_le (cntA_pos B.p0 ht) (h.le t ht)
  obtain ⟨t, ht, e⟩ := h.at_
  have lo : b.1 ≤ gain b.2 z := by
    have h1 := share_eq (b := b) (cntA_pos B.p0 ht)
    rw [e] at h1
    rw [← h1]
    refine mean_le _ B.p0 fun x hx => ?_
    by_cases c : x.2 < t.2
    · rw [if_pos c]
      by_cases c2 : z < x.2
      · rw [if_pos c2]; grind
      · rw [if_neg c2]; exact Rat.le_refl
    · rw [if_neg c]
      by_cases c2 : z < x.2
      · rw [if_pos c2]; exact Rat.le_refl
      · rw [if_neg c2]; grind
  exact Rat.le_antisymm up lo
theorem gain_zero {ps : List (Rat × Rat)} {z : Rat} (hp : ∀ x ∈ ps, 0 < x.1) (h : gain ps z = 0) : ∀ x ∈ ps, x.2 ≤ z := by
  induction ps with
  | nil => intro x hx; cases hx
  | cons y ps ih =>
    unfold gain at h ih
    rw [mean_cons] at h
    have hy := hp y List.mem_cons_self
    have hr : 0 ≤ mean ps fun v => if z < v then v - z else 0 := mean_nn (fun x hx => hp x (List.mem_cons_of_mem _ hx)) fun x _ => by
      by_cases c : z < x.2
      · rw [if_pos c]; grind
      · rw [if_neg c]; exact Rat.le_refl
    have h1 : ¬ z < y.2 := fun c => by
      rw [if_pos c] at h
      have : 0 < y.1 * (y.2 - z) := Rat.mul_pos hy (by grind)
      grind
    rw [if_neg h1] at h
    have h2 := ih (fun x hx => hp x (List.mem_cons_of_mem _ hx)) (by grind)
    intro x hx
    rcases List.mem_cons.mp hx with rfl | hx
    · grind
    · exact h2 x hx
/-- for a price of 0 the reserve is the greatest value -/
theorem res_free {b : Bx} {z : Rat} (B : BxP b) (h : IsRes b z) (c0 : b.1 = 0) : (∀ x ∈ b.2, x.2 ≤ z) ∧ ∃ x ∈ b.2, x.2 = z := by
  have hz := gain_zero B.p0 (by rw [res_gain B h, c0])
  refine ⟨hz, ?_⟩
  -- a greatest one
  obtain ⟨m, hm, gm⟩ : ∃ m ∈ b.2, ∀ x ∈ b.2, x.2 ≤ m.2 := by
    have : ∀ ps : List (Rat × Rat), ps ≠ [] → ∃ m ∈ ps, ∀ x ∈ ps, x.2 ≤ m.2 := by
      intro ps
      induction ps with
      | nil => intro h; exact absurd rfl h
      | cons y ps ih =>
        intro _
        cases ps with
        | nil => exact ⟨y, List.mem_cons_self, fun x hx => by rw [List.mem_singleton.mp hx]; exact Rat.le_refl⟩
        | cons w ps =>
          obtain ⟨m, hm, g⟩ := ih (fun e => nomatch e)
          by_cases c : m.2 < y.2
          · refine ⟨y, List.mem_cons_self, fun x hx => ?_⟩
            rcases List.mem_cons.mp hx with rfl | hx
            · exact Rat.le_refl
            · have := g x hx
              grind
          · refine ⟨m, List.mem_cons_of_mem _ hm, fun x hx => ?_⟩
            rcases List.mem_cons.mp hx with rfl | hx
            · grind
            · exact g x hx
    exact this _ B.ne
  refine ⟨m, hm, Rat.le_antisymm (hz m hm) ?_⟩
  obtain ⟨t, ht, e⟩ := h.at_
  rw [← e]
  have hc := cntA_pos B.p0 ht
  have h1 : sumA b.2 t.2 ≤ m.2 * cntA b.2 t.2 := by
    have h2 := cutA_eq t.2 m.2 b.2
    have h3 : cutA b.2 t.2 m.2 ≤ mean b.2 fun _ => 0 := mean_le _ B.p0 fun x hx => by
      have := gm x hx
      by_cases c : x.2 < t.2
      · rw [if_pos c]; exact Rat.le_refl
      · rw [if_neg c]; grind
    rw [mean_const] at h3
    grind
  unfold shareR
  have h4 : (sumA b.2 t.2 - b.1) / cntA b.2 t.2 * cntA b.2 t.2 = sumA b.2 t.2 - b.1 := Rat.div_mul_cancel (by grind)
  refine Rat.not_lt.mp fun hlt => ?_
  have h5 : m.2 * cntA b.2 t.2 < (sumA b.2 t.2 - b.1) / cntA b.2 t.2 * cntA b.2 t.2 := Rat.mul_lt_mul_of_pos_right hlt hc
  grind
/-- more to pay lowers a reserve -/
theorem res_lower {b : Bx} {z z' e : Rat} (B : BxP b) (e0 : 0 < e) (h : IsRes b z) (h' : IsRes (b.1 + e, b.2) z') : z' < z := by
  obtain ⟨t, ht, et⟩ := h'.at_
  have hc := cntA_pos B.p0 ht
  have h1 := h.le t ht
  have h2 : shareR (b.1 + e, b.2) t.2 < shareR b t.2 := by
    unfold shareR
    show (sumA b.2 t.2 - (b.1 + e)) / cntA b.2 t.2 < (sumA b.2 t.2 - b.1) / cntA b.2 t.2
    have a1 : (sumA b.2 t.2 - b.1) / cntA b.2 t.2 * cntA b.2 t.2 = sumA b.2 t.2 - b.1 := Rat.div_mul_cancel (by grind)
    have a2 : (sumA b.2 t.2 - (b.1 + e)) / cntA b.2 t.2 * cntA b.2 t.2 = sumA b.2 t.2 - (b.1 + e) := Rat.div_mul_cancel (by grind)
    refine Rat.not_le.mp fun hle => ?_
    have := Rat.mul_le_mul_of_nonneg_right hle (Rat.le_of_lt hc)
    grind
  grind
/-! ### the rule of reserves -/
structure BxQ (b : Bx) : Prop extends BxP b where
  v0 : ∀ x ∈ b.2, 0 ≤ x.2
  one : (b.2.map fun x => x.1).sum = 1
def mx (a b : Rat) : Rat := if a < b then b else a
def mn (a b : Rat) : Rat := if a < b then a else b
theorem mx_l (a b : Rat) : a ≤ mx a b := by unfold mx; split <;> grind
theorem mx_r (a b : Rat) : b ≤ mx a b := by unfold mx; split <;> grind
theorem mx_le {a b c : Rat} (h : a ≤ c) (h' : b ≤ c) : mx a b ≤ c := by unfold mx; split <;> grind
/-- what is had from y on with one more box that is shut: less the price, what is in it or y -/
def openW (b : Bx) (y : Rat) : Rat := mean b.2 (fun v => mx y v) - b.1
theorem openW_eq {b : Bx} {z : Rat} (B : BxQ b) (h : IsRes b z) (y : Rat) : openW b y = y + (gain b.2 y - gain b.2 z) := by
  unfold openW
  rw [res_gain B.toBxP h]
  have e : (fun v => mx y v) = fun v => y + (if y < v then v - y else 0) := funext fun v => by
    unfold mx
    split <;> grind
  rw [e, mean_add (f := fun _ => y), mean_const, B.one]
  unfold gain
  grind
theorem gain_anti {ps : List (Rat × Rat)} {a c : Rat} (hp : ∀ x ∈ ps, 0 < x.1) (h : a ≤ c) : gain ps c ≤ gain ps a := mean_le _ hp fun x _ => by
  split <;> split <;> grind
/-- below the reserve opening is no worse, from it on no better -/
theorem open_ge {b : Bx} {z y : Rat} (B : BxQ b) (h : IsRes b z) (c : y < z) : y ≤ openW b y := by
  rw [openW_eq B h]
  have := gain_anti B.p0 (Rat.le_of_lt c)
  grind
theorem open_le {b : Bx} {z y : Rat} (B : BxQ b) (h : IsRes b z) (c : ¬ y < z) : openW b y ≤ y := by
  rw [openW_eq B h]
  have := gain_anti B.p0 (Rat.not_lt.mp c)
  grind
/-- the best from y on with one box shut -/
theorem best_one {b : Bx} {z : Rat} (B : BxQ b) (h : IsRes b z) (y : Rat) : mx y (openW b y) = mean b.2 fun v => mx y (mn v z) := by
  by_cases c : y < z
  · have : mx y (openW b y) = openW b y := by
      have := open_ge B h c
      unfold mx
      split <;> grind
    rw [this, openW_eq B h, show y + (gain b.2 y - gain b.2 z) = mean b.2 (fun _ => y) + (gain b.2 y - gain b.2 z) by rw [mean_const, B.one]; grind]
    unfold gain
    rw [← mean_sub, ← mean_add]
    refine mean_congr _ fun x _ => ?_
    unfold mx mn
    split <;> split <;> split <;> grind
  · have : mx y (openW b y) = y := by
      have := open_le B h c
      unfold mx
      split <;> grind
    rw [this]
    have e : mean b.2 (fun v => mx y (mn v z)) = mean b.2 fun _ => y := mean_congr _ fun x _ => by
      unfold mx mn
      by_cases c1 : x.2 < z
      · rw [if_pos c1]
        by_cases c2 : y < x.2
        · grind
        · rw [if_neg c2]
      · rw [if_neg c1, if_neg c]
    rw [e, mean_const, B.one]
    grind
/-- opening a ahead of b, both shut -/
def openTwo (a b : Bx) : Rat := mean a.2 (fun x => mx x (openW b x)) - a.1
def boundTwo (a b : Bx) (za zb : Rat) : Rat := mean a.2 fun x => mean b.2 fun y => mx (mn x za) (mn y zb)
theorem openTwo_eq {a b : Bx} {za zb : Rat} (A : BxQ a) (B : BxQ b) (ha : IsRes a za) (hb : IsRes b zb) : openTwo a b = mean a.2 fun x => mean b.2 fun y => (mx x (mn y zb) - (if za < x then x - za else 0)) := by
  unfold openTwo
  rw [← res_gain A.toBxP ha]
  unfold gain
  rw [← mean_sub]
  refine mean_congr _ fun x _ => ?_
  have e := mean_sub (f := fun y => mx x.2 (mn y zb)) (g := fun _ => if za < x.2 then x.2 - za else 0) b.2
  rw [mean_const, B.one] at e
  rw [best_one B hb, e]
  grind
theorem openTwo_le {a b : Bx} {za zb : Rat} (A : BxQ a) (B : BxQ b) (ha : IsRes a za) (hb : IsRes b zb) : openTwo a b ≤ boundTwo a b za zb := by
  rw [openTwo_eq A B ha hb]
  refine mean_le _ A.p0 fun x _ => mean_le _ B.p0 fun y _ => ?_
  unfold mx mn
  split <;> split <;> split <;> split <;> grind
theorem openTwo_at {a b : Bx} {za zb : Rat} (A : BxQ a) (B : BxQ b) (ha : IsRes a za) (hb : IsRes b zb) (c : zb ≤ za) : openTwo a b = boundTwo a b za zb := by
  rw [openTwo_eq A B ha hb]
  refine mean_congr _ fun x _ => mean_congr _ fun y _ => ?_
  unfold mx mn
  split <;> split <;> split <;> split <;> grind
theorem bound_swap {a b : Bx} {za zb : Rat} : boundTwo a b za zb = boundTwo b a zb za := by
  unfold boundTwo
  rw [mean_swap]
  refine mean_congr _ fun y _ => mean_congr _ fun x _ => ?_
  unfold mx
  split <;> split <;> grind
/-- of two the one of the greater reserve is best, where it is above 0 -/
theorem two_best {a b : Bx} {za zb : Rat} (A : BxQ a) (B : BxQ b) (ha : IsRes a za) (hb : IsRes b zb) (c : zb ≤ za) (h0 : 0 < za) : openTwo b a ≤ openTwo a b ∧ 0 ≤ openTwo a b := by
  constructor
  · rw [openTwo_at A B ha hb c, bound_swap]
    exact openTwo_le B A hb ha
  · rw [openTwo_at A B ha hb c]
    exact mean_nn A.p0 fun x hx => mean_nn B.p0 fun y _ => by
      have := A.v0 x hx
      have := mx_l (mn x.2 za) (mn y.2 zb)
      unfold mn at this ⊢
      split at this <;> split at this <;> grind
theorem two_none {a b : Bx} {za zb : Rat} (A : BxQ a) (B : BxQ b) (ha : IsRes a za) (hb : IsRes b zb) (h0 : ¬ 0 < za) (h1 : ¬ 0 < zb) : openTwo a b ≤ 0 := by
  rw [openTwo_eq A B ha hb]
  have e : (mean a.2 fun x => mean b.2 fun y => (mx x (mn y zb) - (if za < x then x - za else 0))) ≤ mean a.2 fun _ => 0 := mean_le _ A.p0 fun x hx => by
    refine Rat.le_trans (mean_le (g := fun _ => 0) _ B.p0 fun y _ => ?_) ?_
    · have := A.v0 x hx
      unfold mx mn
      split <;> split <;> split <;> grind
    · rw [mean_const]; grind
  rw [mean_const] at e
  grind
/-! ### states of boxes, their best worths -/
abbrev Seen := List (Option Nat)
def nnS : Seen → Nat
  | [] => 0
  | none :: s => nnS s + 1
  | some _ :: s => nnS s
theorem nn_set : ∀ {s : Seen} {i k : Nat}, s[i]? = some none → nnS s = nnS (s.set i (some k)) + 1
  | [], _, _, h => by simp at h
  | o :: s, 0, k, h => by
    simp only [List.getElem?_cons_zero, Option.some.injEq] at h
    subst h
    rfl
  | none :: s, i + 1, k, h => by
    simp only [List.getElem?_cons_succ] at h
    show nnS s + 1 = nnS (s.set i (some k)) + 1 + 1
    rw [nn_set (k := k) h]
  | some _ :: s, i + 1, k, h => by
    simp only [List.getElem?_cons_succ] at h
    show nnS s = nnS (s.set i (some k)) + 1
    rw [nn_set (k := k) h]
def opnL (f : Nat → Rat) : Nat → List (Rat × Rat) → List Rat
  | _, [] => []
  | k, x :: xs => x.1 * f k :: opnL f (k + 1) xs
def opnS (b : Bx) (f : Nat → Rat) : List Rat := -b.1 :: opnL f 0 b.2
def opn (b : Bx) (f : Nat → Rat) : Rat := (opnS b f).sum
def valX (b : Bx) (k : Nat) : Rat := match b.2[k]? with
  | some x => x.2
  | none => 0
/-- what the move of a box is worth -/
def mvR (f : Seen → Rat) (s : Seen) (i : Nat) (b : Bx) : Option Nat → Rat
  | none => opn b fun k => f (s.set i (some k))
  | some k => valX b k
def mvsR (f : Seen → Rat) (s : Seen) : Nat → Seen → List Bx → List Rat
  | i, o :: os, b :: bs => mvR f s i b o :: mvsR f s (i + 1) os bs
  | _, _, _ => []
def maxL (xs : List Rat) : Rat := xs.foldl (fun m q => if m < q then q else m) 0
def bWn (B : List Bx) : Nat → Seen → Rat
  | 0, s => maxL (mvsR (fun _ => 0) s 0 s B)
  | n + 1, s => maxL (mvsR (bWn B n) s 0 s B)
def best (B : List Bx) (s : Seen) : Rat := bWn B (nnS s) s
theorem opnL_congr {f g : Nat → Rat} : ∀ (ps : List (Rat × Rat)) (k : Nat), (∀ j x, ps[j]? = some x → f (k + j) = g (k + j)) → opnL f k ps = opnL g k ps
  | [], _, _ => rfl
  | x :: ps, k, h => by
    show x.1 * f k :: opnL f (k + 1) ps = x.1 * g k :: opnL g (k + 1) ps
    have h0 : f k = g k := h 0 x rfl
    have h1 : opnL f (k + 1) ps = opnL g (k + 1) ps := opnL_congr ps (k + 1) fun j y hy => by
      have := h (j + 1) y hy
      rw [show k + 1 + j = k + (j + 1) by omega]
      exact this
    rw [h0, h1]
theorem mvs_congr {f g : Seen → Rat} {s : Seen} (h : ∀ i k, s[i]? = some none → f (s.set i (some k)) = g (s.set i (some k))) : ∀ (os : Seen) (bs : List Bx) (i : Nat), (∀ j o, os[j]? = some o → s[i + j]? = some o) → mvsR f s i os bs = mvsR g s i os bs
  | [], _, _, _ => by unfold mvsR; rfl
  | o :: os, [], _, _ => by unfold mvsR; rfl
  | o :: os, b :: bs, i, ho => by
    unfold mvsR
    rw [mvs_congr h os bs (i + 1) fun j o' hj => by
      have := ho (j + 1) o' hj
      rw [show i + 1 + j = i + (j + 1) by omega]
      exact this]
    congr 1
    cases o with
    | some k => rfl
    | none =>
      have hi := ho 0 none rfl
      show opn b _ = opn b _
      unfold opn opnS
      rw [opnL_congr (f := fun k => f (s.set i (some k))) (g := fun k => g (s.set i (some k))) b.2 0 fun j x _ => h i (0 + j) hi]
/-- what is best in a state: the greatest of its moves' worths and of 0 -/
theorem best_eq (B : List Bx) (s : Seen) : best B s = maxL (mvsR (best B) s 0 s B) := by
  have e : best B s = bWn B (nnS s) s := rfl
  rw [e]
  cases hn : nnS s with
  | zero =>
    show maxL (mvsR (fun _ => 0) s 0 s B) = _
    rw [mvs_congr (f := fun _ => 0) (g := best B) (fun i k hi => by
      have := nn_set (k := k) hi
      omega) s B 0 fun j o h => by rw [Nat.zero_add]; exact h]
  | succ m =>
    show maxL (mvsR (bWn B m) s 0 s B) = _
    rw [mvs_congr (g := best B) (fun i k hi => by
      have := nn_set (k := k) hi
      unfold best
      rw [show nnS (s.set i (some k)) = m by omega]) s B 0 fun j o h => by rw [Nat.zero_add]; exact h]
theorem foldl_ge : ∀ (xs : List Rat) (m : Rat), m ≤ xs.foldl (fun m q => if m < q then q else m) m
  | [], _ => Rat.le_refl
  | x :: xs, m => by
    refine Rat.le_trans ?_ (foldl_ge xs _)
    dsimp only
    split <;> grind
theorem foldl_mem_le : ∀ (xs : List Rat) (m : Rat), ∀ x ∈ xs, x ≤ xs.foldl (fun m q => if m < q then q else m) m
  | [], _, x, h => by cases h
  | y :: xs, m, x, h => by
    rcases List.mem_cons.mp h with rfl | h
    · refine Rat.le_trans ?_ (foldl_ge xs _)
      dsimp only
      split <;> grind
    · exact foldl_mem_le xs _ x h
theorem foldl_le {c : Rat} : ∀ (xs : List Rat) (m : Rat), m ≤ c → (∀ x ∈ xs, x ≤ c) → xs.foldl (fun m q => if m < q then q else m) m ≤ c
  | [], _, h, _ => h
  | x :: xs, m, h, hx => foldl_le xs _ (by dsimp only; split; exact hx x List.mem_cons_self; exact h) fun y hy => hx y (List.mem_cons_of_mem _ hy)
theorem maxL_is {xs : List Rat} {q : Rat} (h0 : 0 ≤ q) (hm : q = 0 ∨ q ∈ xs) (hx : ∀ x ∈ xs, x ≤ q) : maxL xs = q := by
  refine Rat.le_antisymm (foldl_le xs 0 h0 hx) ?_
  rcases hm with rfl | hm
  · exact foldl_ge xs 0
  · exact foldl_mem_le xs 0 q hm
theorem opnL_mean {f : Nat → Rat} {g : Rat → Rat} : ∀ (ps : List (Rat × Rat)) (k : Nat), (∀ j x, ps[j]? = some x → f (k + j) = g x.2) → (opnL f k ps).sum = mean ps g
  | [], _, _ => rfl
  | x :: ps, k, h => by
    show (x.1 * f k :: opnL f (k + 1) ps).sum = _
    have h0 : f k = g x.2 := h 0 x rfl
    rw [List.sum_cons, mean_cons, h0, opnL_mean ps (k + 1) fun j y hy => by
      have := h (j + 1) y hy
      rw [show k + 1 + j = k + (j + 1) by omega]
      exact this]
theorem opn_mean {b : Bx} {f : Nat → Rat} {g : Rat → Rat} (h : ∀ j x, b.2[j]? = some x → f j = g x.2) : opn b f = mean b.2 g - b.1 := by
  unfold opn opnS
  rw [List.sum_cons, opnL_mean b.2 0 fun j x hx => by rw [Nat.zero_add]; exact h j x hx]
  grind
inductive Mv where
  | leave
  | open_ (k : Nat)
  | take (k : Nat)
/-- what a move is worth -/
def worthM (B : List Bx) (s : Seen) : Mv → Rat
  | .leave => 0
  | .open_ k => match B[k]? with
    | some b => opn b fun j => best B (s.set k (some j))
    | none => 0
  | .take k => match B[k]?, s[k]? with
    | some b, some (some j) => valX b j
    | _, _ => 0
/-- what has been seen is worth m at most -/
structure MostS (B : List Bx) (s : Seen) (m : Rat) : Prop where
  nn : 0 ≤ m
  le : ∀ (k : Nat) (b : Bx) (j : Nat), B[k]? = some b → s[k]? = some (some j) → valX b j ≤ m
  at_ : m = 0 ∨ ∃ (k : Nat) (b : Bx) (j : Nat), B[k]? = some b ∧ s[k]? = some (some j) ∧ valX b j = m
/-- a move by the rule of reserves -/
inductive StepP (B : List Bx) (zs : List Rat) (s : Seen) : Mv → Prop
  | op {m : Rat} {k : Nat} {z : Rat} : MostS B s m → s[k]? = some none → zs[k]? = some z → m < z → (∀ (i : Nat) (y : Rat), s[i]? = some none → zs[i]? = some y → m < y → y ≤ z) → StepP B zs s (.open_ k)
  | tk {m : Rat} {k j : Nat} {b : Bx} : MostS B s m → (∀ (i : Nat) (y : Rat), s[i]? = some none → zs[i]? = some y → ¬ m < y) → s[k]? = some (some j) → B[k]? = some b → valX b j = m → StepP B zs s (.take k)
  | lv {m : Rat} : MostS B s m → (∀ (i : Nat) (y : Rat), s[i]? = some none → zs[i]? = some y → ¬ m < y) → m = 0 → StepP B zs s .leave
/-- states of one or two boxes -/
structure SnOk (B : List Bx) (s : Seen) : Prop where
  l : s.length = B.length
  lt : ∀ (i j : Nat) (b : Bx), s[i]? = some (some j) → B[i]? = some b → j < b.2.length
theorem val_nn {b : Bx} (B : BxQ b) (j : Nat) : 0 ≤ valX b j := by
  unfold valX
  cases h : b.2[j]? with
  | none => exact Rat.le_refl
  | some x => exact B.v0 x (List.mem_of_getElem? h)
theorem val_at {b : Bx} {j : Nat} {x : Rat × Rat} (h : b.2[j]? = some x) : valX b j = x.2 := by
  unfold valX
  rw [h]
section
variable {a b : Bx} {za zb m : Rat} {i j : Nat}
theorem one_some (A : BxQ a) : best [a] [some i] = valX a i := by
  rw [best_eq]
  exact maxL_is (val_nn A i) (.inr (by simp [mvsR, mvR])) (by simp [mvsR, mvR])
theorem one_open (A : BxQ a) : mvR (best [a]) [none] 0 a none = openW a 0 := by
  refine opn_mean (g := fun v => mx 0 v) fun j x hx => ?_
  show best [a] [some j] = _
  rw [one_some A, val_at hx]
  have := A.v0 x (List.mem_of_getElem? hx)
  unfold mx
  split <;> grind
theorem two_some (A : BxQ a) (B : BxQ b) : best [a, b] [some i, some j] = mx (valX a i) (valX b j) := by
  have h1 := val_nn A i
  have h2 := val_nn B j
  rw [best_eq]
  refine maxL_is (Rat.le_trans h1 (mx_l _ _)) (.inr ?_) ?_
  · simp only [mvsR, mvR]
    unfold mx
    split <;> simp
  · intro x hx
    simp only [mvsR, mvR, List.mem_cons, List.not_mem_nil, or_false] at hx
    rcases hx with rfl | rfl
    · exact mx_l _ _
    · exact mx_r _ _
theorem two_openB (A : BxQ a) (B : BxQ b) : mvR (best [a, b]) [some i, none] 1 b none = openW b (valX a i) := by
  refine opn_mean (g := fun v => mx (valX a i) v) fun j x hx => ?_
  show best [a, b] [some i, some j] = _
  rw [two_some A B, val_at hx]
theorem mx_comm (x y : Rat) : mx x y = mx y x := by unfold mx; split <;> split <;> grind
theorem two_openA (A : BxQ a) (B : BxQ b) : mvR (best [a, b]) [none, some j] 0 a none = openW a (valX b j) := by
  refine opn_mean (g := fun v => mx (valX b j) v) fun i x hx => ?_
  show best [a, b] [some i, some j] = _
  rw [two_some A B, val_at hx, mx_comm]
theorem two_bestB (A : BxQ a) (B : BxQ b) : best [a, b] [some i, none] = mx (valX a i) (openW b (valX a i)) := by
  have h1 := val_nn A i
  rw [best_eq]
  refine maxL_is (Rat.le_trans h1 (mx_l _ _)) (.inr ?_) ?_
  · simp only [mvsR, two_openB A B]
    show mx _ _ ∈ [valX a i, openW b (valX a i)]
    unfold mx
    split <;> simp
  · intro x hx
    simp only [mvsR, two_openB A B] at hx
    replace hx : x ∈ [valX a i, openW b (valX a i)] := hx
    simp only [List.mem_cons, List.not_mem_nil, or_false] at hx
    rcases hx with rfl | rfl
    · exact mx_l _ _
    · exact mx_r _ _
theorem two_bestA (A : BxQ a) (B : BxQ b) : best [a, b] [none, some j] = mx (valX b j) (openW a (valX b j)) := by
  have h1 := val_nn B j
  rw [best_eq]
  refine maxL_is (Rat.le_trans h1 (mx_l _ _)) (.inr ?_) ?_
  · simp only [mvsR, two_openA A B]
    show mx _ _ ∈ [openW a (valX b j), valX b j]
    unfold mx
    split <;> simp
  · intro x hx
    simp only [mvsR, two_openA A B] at hx
    replace hx : x ∈ [openW a (valX b j), valX b j] := hx
    simp only [List.mem_cons, List.not_mem_nil, or_false] at hx
    rcases hx with rfl | rfl
    · exact mx_r _ _
    · exact mx_l _ _
theorem two_both (A : BxQ a) (B : BxQ b) : mvR (best [a, b]) [none, none] 0 a none = openTwo a b ∧ mvR (best [a, b]) [none, none] 1 b none = openTwo b a := by
  constructor
  · refine opn_mean (g := fun x => mx x (openW b x)) fun i x hx => ?_
    show best [a, b] [some i, none] = _
    rw [two_bestB A B, val_at hx]
  · refine opn_mean (g := fun x => mx x (openW a x)) fun i x hx => ?_
    show best [a, b] [none, some i] = _
    rw [two_bestA A B, val_at hx]
theorem two_bestN (A : BxQ a) (B : BxQ b) : best [a, b] [none, none] = maxL [openTwo a b, openTwo b a] := by
  rw [best_eq]
  simp only [mvsR, (two_both A B).1, (two_both A B).2]
end
theorem maxL_mem {xs : List Rat} {q : Rat} (h0 : 0 ≤ q) (hm : q ∈ xs) (hx : ∀ x ∈ xs, x ≤ q) : maxL xs = q := maxL_is h0 (.inr hm) hx
theorem MostS.of {B : List Bx} {s : Seen} {m : Rat} (M : MostS B s m) {k j : Nat} {b : Bx} (h : B[k]? = some b) (h' : s[k]? = some (some j)) : valX b j ≤ m := M.le k b j h h'
theorem lt_le {x y : Rat} (h : x < y) : x ≤ y := Rat.le_of_lt h
/-- the rule's move is worth the best, one box -/
theorem step_one {a : Bx} {za : Rat} {o : Option Nat} {mv : Mv} (A : BxQ a) (ra : IsRes a za) (h : StepP [a] [za] [o] mv) : worthM [a] [o] mv = best [a] [o] := by
  have b0 : o = none → best [a] [o] = mx 0 (openW a 0) := by
    rintro rfl
    rw [best_eq]
    simp only [mvsR, one_open A]
    rfl
  cases h with
  | @op m k z M hs hz lt mo =>
    match k, hs, hz with
    | 0, hs, hz =>
      cases hs
      cases hz
      have m0 : m = 0 := by
        rcases M.at_ with h | ⟨k, b, j, h1, h2, _⟩
        · exact h
        · match k, h2 with
          | 0, h2 => cases h2
      subst m0
      rw [b0 rfl]
      show mvR (best [a]) [none] 0 a none = _
      rw [one_open A]
      have := open_ge A ra lt
      unfold mx
      split <;> grind
  | @tk m k j b M no hs hb hv =>
    match k, hs, hb with
    | 0, hs, hb =>
      cases hs
      cases hb
      rw [one_some A]
      rfl
  | @lv m M no hm =>
    subst hm
    cases o with
    | none =>
      rw [b0 rfl]
      have := open_le A ra (no 0 za rfl rfl)
      show 0 = _
      unfold mx
      split <;> grind
    | some j =>
      rw [one_some A]
      have h1 := M.of (k := 0) rfl rfl
      exact (Rat.le_antisymm h1 (val_nn A j)).symm
theorem mx_of_ge {x y : Rat} (h : y ≤ x) : mx x y = x := by unfold mx; split <;> grind
theorem mx_of_le {x y : Rat} (h : x ≤ y) : mx x y = y := by unfold mx; split <;> grind
/-- the same of two -/
theorem step_two {a b : Bx} {za zb : Rat} {o u : Option Nat} {mv : Mv} (A : BxQ a) (B : BxQ b) (ra : IsRes a za) (rb : IsRes b zb) (h : StepP [a, b] [za, zb] [o, u] mv) : worthM [a, b] [o, u] mv = best [a, b] [o, u] := by
  cases o with
  | none =>
    cases u with
    | none =>
      rw [two_bestN A B]
      have bothA := (two_both A B).1
      have bothB := (two_both A B).2
      have m0 : ∀ {m : Rat}, MostS [a, b] [none, none] m → m = 0 := fun M => by
        rcases M.at_ with h | ⟨k, b, j, h1, h2, _⟩
        · exact h
        · match k, h2 with
          | 0, h2 => cases h2
          | 1, h2 => cases h2
      cases h with
      | @op m k z M hs hz lt mo =>
        have := m0 M
        subst this
        match k, hs, hz with
        | 0, hs, hz =>
          cases hz
          show mvR (best [a, b]) [none, none] 0 a none = _
          rw [bothA]
          have c : zb ≤ za := by
            by_cases c : 0 < zb
            · exact mo 1 zb rfl rfl c
            · grind
          obtain ⟨h1, h2⟩ := two_best A B ra rb c lt
          refine (maxL_mem h2 (by simp) fun x hx => ?_).symm
          simp only [List.mem_cons, List.not_mem_nil, or_false] at hx
          rcases hx with rfl | rfl
          · exact Rat.le_refl
          · exact h1
        | 1, hs, hz =>
          cases hz
          show mvR (best [a, b]) [none, none] 1 b none = _
          rw [bothB]
          have c : za ≤ zb := by
            by_cases c : 0 < za
            · exact mo 0 za rfl rfl c
            · grind
          obtain ⟨h1, h2⟩ := two_best B A rb ra c lt
          refine (maxL_mem h2 (by simp) fun x hx => ?_).symm
          simp only [List.mem_cons, List.not_mem_nil, or_false] at hx
          rcases hx with rfl | rfl
          · exact h1
          · exact Rat.le_refl
      | @tk m k j b M no hs hb hv =>
        match k, hs with
        | 0, hs => cases hs
        | 1, hs => cases hs
      | @lv m M no hm =>
        subst hm
        have ha := no 0 za rfl rfl
        have hb := no 1 zb rfl rfl
        refine (maxL_is Rat.le_refl (.inl rfl) fun x hx => ?_).symm
        simp only [List.mem_cons, List.not_mem_nil, or_false] at hx
        rcases hx with rfl | rfl
        · exact two_none A B ra rb ha hb
        · exact two_none B A rb ra hb ha
    | some j =>
      rw [two_bestA A B]
      have m0 : ∀ {m : Rat}, MostS [a, b] [none, some j] m → m = valX b j := fun M => by
        have h1 := M.of (k := 1) rfl rfl
        rcases M.at_ with h | ⟨k, b', j', h1', h2, h3⟩
        · have := val_nn B j
          grind
        · match k, h2, h1' with
          | 0, h2, _ => cases h2
          | 1, h2, h1' =>
            cases h2
            cases h1'
            exact h3.symm
      cases h with
      | @op m k z M hs hz lt mo =>
        have := m0 M
        subst this
        match k, hs, hz with
        | 0, hs, hz =>
          cases hz
          show mvR (best [a, b]) [none, some j] 0 a none = _
          rw [two_openA A B, mx_of_le (open_ge A ra lt)]
        | 1, hs, hz => cases hs
      | @tk m k i b' M no hs hb hv =>
        have := m0 M
        subst this
        match k, hs, hb with
        | 0, hs, _ => cases hs
        | 1, hs, hb =>
          cases hs
          cases hb
          rw [mx_of_ge (open_le A ra (no 0 za rfl rfl))]
          rfl
      | @lv m M no hm =>
        have := m0 M
        subst this
        rw [mx_of_ge (open_le A ra (no 0 za rfl rfl)), hm]
        rfl
  | some i =>
    cases u with
    | none =>
      rw [two_bestB A B]
      have m0 : ∀ {m : Rat}, MostS [a, b] [some i, none] m → m = valX a i := fun M => by
        have h1 := M.of (k := 0) rfl rfl
        rcases M.at_ with h | ⟨k, b', j', h1', h2, h3⟩
        · have := val_nn A i
          grind
        · match k, h2, h1' with
          | 1, h2, _ => cases h2
          | 0, h2, h1' =>
            cases h2
            cases h1'
            exact h3.symm
      cases h with
      | @op m k z M hs hz lt mo =>
        have := m0 M
        subst this
        match k, hs, hz with
        | 1, hs, hz =>
          cases hz
          show mvR (best [a, b]) [some i, none] 1 b none = _
          rw [two_openB A B, mx_of_le (open_ge B rb lt)]
        | 0, hs, hz => cases hs
      | @tk m k j b' M no hs hb hv =>
        have := m0 M
        subst this
        match k, hs, hb with
        | 1, hs, _ => cases hs
        | 0, hs, hb =>
          cases hs
          cases hb
          rw [mx_of_ge (open_le B rb (no 1 zb rfl rfl))]
          rfl
      | @lv m M no hm =>
        have := m0 M
        subst this
        rw [mx_of_ge (open_le B rb (no 1 zb rfl rfl)), hm]
        rfl
    | some j =>
      rw [two_some A B]
      have ge : ∀ {m : Rat}, MostS [a, b] [some i, some j] m → m = mx (valX a i) (valX b j) := fun M => by
        have h1 := M.of (k := 0) rfl rfl
        have h2 := M.of (k := 1) rfl rfl
        refine Rat.le_antisymm ?_ (mx_le h1 h2)
        rcases M.at_ with h | ⟨k, b', j', h1', h2', h3⟩
        · rw [h]
          exact Rat.le_trans (val_nn A i) (mx_l _ _)
        · match k, h2', h1' with
          | 0, h2', h1' =>
            cases h2'
            cases h1'
            rw [← h3]
            exact mx_l _ _
          | 1, h2', h1' =>
            cases h2'
            cases h1'
            rw [← h3]
            exact mx_r _ _
      cases h with
      | @op m k z M hs hz lt mo =>
        match k, hs with
        | 0, hs => cases hs
        | 1, hs => cases hs
      | @tk m k j' b' M no hs hb hv =>
        rw [← ge M, ← hv]
        show (match [a, b][k]?, [some i, some j][k]? with
          | some b, some (some j) => valX b j
          | _, _ => 0) = _
        rw [hs, hb]
      | @lv m M no hm =>
        rw [← ge M, hm]
        rfl
/-! ### helpers: options, flat data, comprehensions over data -/
def optD : Option Nat → PyData
  | none => .none
  | some n => .int (n : Nat)
def optV : Option Nat → V
  | none => .non
  | some n => .int (n : Nat)
theorem Bd.neg {b : Nat} {q : Rat} (h : Bd b q) : Bd b (-q) := ⟨by rw [Rat.neg_num, Int.natAbs_neg]; exact h.1, by rw [Rat.neg_den]; exact h.2⟩
theorem Bd.add {b c : Nat} {q r : Rat} (h : Bd b q) (h' : Bd c r) : Bd (b + c + 1) (q + r) := by
  rw [← add_eq]
  exact bd_divInt (Int.mul_ne_zero (den_ne q) (den_ne r)) (bn_add (bn_mul h.1 (bd_den h')) (by rw [Nat.add_comm b c]; exact bn_mul h'.1 (bd_den h))) (lt_pow_mono (Nat.le_succ _) (bn_mul (bd_den h) (bd_den h')))
theorem Bd.mul {b c : Nat} {q r : Rat} (h : Bd b q) (h' : Bd c r) : Bd (b + c + 1) (q * r) := by
  rw [← mul_eq]
  exact bd_divInt (Int.mul_ne_zero (den_ne q) (den_ne r)) (lt_pow_mono (Nat.le_succ _) (bn_mul h.1 h'.1)) (lt_pow_mono (Nat.le_succ _) (bn_mul (bd_den h) (bd_den h')))
section
variable {K : PySem.W.Frag} {p : Addr} {H H' : Hp} {v : V} {o : Option Nat}
theorem Dq.frq {b : Nat} {q : Rat} (h : Dq K p H v (frd q)) (bd : Bd b q) : Fr K b q v H := by
  have := h.fr (b := b) (frB_frd q) (by rw [frQ_frd]; exact bd)
  rwa [frQ_frd] at this
theorem Fr.re {b c : Nat} {q : Rat} (h : Fr K b q v H) (bd : Bd c q) : Fr K c q v H := by
  obtain ⟨a, rfl, h, _⟩ := h
  exact ⟨a, rfl, h, bd⟩
theorem opt_V (h : Dq K p H v (optD o)) : v = optV o := by
  cases o <;> (cases h; rfl)
theorem opt_D : Dq K p H (optV o) (optD o) := by
  cases o
  · exact .non
  · exact .int _
theorem DqAll.atG {α : Type} {F : List α} {f : α → PyData} {vs : List V} {i : Nat} {x : V} (h : DqAll K p H vs (F.map f)) (e : vs[i]? = some x) : ∃ t, F[i]? = some t ∧ Dq K p H x (f t) := by
  have il : i < vs.length := (List.getElem?_eq_some_iff.mp e).1
  have l := h.len
  rw [List.length_map] at l
  have e2 : F[i]? = some F[i] := List.getElem?_eq_getElem (by omega)
  obtain ⟨x', h1, h2⟩ := h.get (j := i) (dj := f F[i]) (by rw [List.getElem?_map, e2]; rfl)
  rw [e] at h1
  cases h1
  exact ⟨_, e2, h2⟩
/-- a tuple of two -/
theorem Dq.pair {d e : PyData} (h : Dq K p H v (.tuple [d, e])) : ∃ a x y, v = .ref a ∧ SqT K H a [x, y] ∧ Dq K p H x d ∧ Dq K p H y e := by
  obtain ⟨a, xs, rfl, hS, hA⟩ := h.seq
  cases hA with
  | cons h1 r =>
    cases r with
    | cons h2 r =>
      cases r
      exact ⟨a, _, _, rfl, hS, h1, h2⟩
end
/-! flat data stays where a list changes -/
mutual
def flatD : PyData → Bool
  | .list _ => false
  | .dict _ => false
  | .tuple ds => flatDA ds
  | _ => true
def flatDA : List PyData → Bool
  | [] => true
  | d :: ds => flatD d && flatDA ds
end
def tupd (H : Hp) (a : Addr) : Prop := (∀ xs, H a ≠ some (.tup xs)) ∧ ∀ xs o, H a ≠ some (.frz o (.tup xs))
theorem tupd_l {H : Hp} {a : Addr} {xs : List V} (h : H a = some (.lst xs)) : tupd H a := ⟨fun ys => by rw [h]; exact (nofun), fun ys o => by rw [h]; exact (nofun)⟩
theorem tupd_k {H : Hp} {a : Addr} {xs : List (Key × V)} (h : H a = some (.dK xs)) : tupd H a := ⟨fun ys => by rw [h]; exact (nofun), fun ys o => by rw [h]; exact (nofun)⟩
theorem tupd_t {H : Hp} {a : Addr} (h : GxR.TabG H a) : tupd H a := by
  obtain ⟨ps, h, _⟩ := h
  exact ⟨fun ys => by rw [h]; exact (nofun), fun ys o => by rw [h]; exact (nofun)⟩
theorem sqt_tb {K : PySem.W.Frag} {H H' : Hp} {p c : Addr} {ys : List V} (hp : tupd H p) (e : ExB p H H') (h : SqT K H c ys) : SqT K H' c ys := by
  rcases h with (h | ⟨o, h⟩) | h
  · exact .inl (.inl (e c _ (by rintro rfl; exact hp.1 ys h) h))
  · exact .inl (.inr ⟨o, e c _ (by rintro rfl; exact hp.2 ys o h) h⟩)
  · exact .inr h
theorem Fr.tb {K : PySem.W.Frag} {H H' : Hp} {p : Addr} {b : Nat} {q : Rat} {z : V} (hp : tupd H p) (e : ExB p H H') (h : Fr K b q z H) : Fr K b q z H' := by
  obtain ⟨c, rfl, h, x⟩ := h
  exact ⟨c, rfl, sqt_tb hp e h, x⟩
mutual
theorem Dq.fl {K : PySem.W.Frag} {p D : Addr} {H H' : Hp} (hD : tupd H D) (e : ExB D H H') : ∀ (d : PyData) (v : V), flatD d = true → Dq K p H v d → Dq K p H' v d
  | _, _, _, .non => .non
  | _, _, _, .bl b => .bl b
  | _, _, _, .int i => .int i
  | _, _, _, .str x => .str x
  | _, _, f, .lst n m h hs => by simp [flatD] at f
  | _, _, f, .tup h hs => .tup (sqt_tb hD e h) (DqAll.fl hD e _ _ (by simpa [flatD] using f) hs)
  | _, _, f, .emp h => by simp [flatD] at f
theorem DqAll.fl {K : PySem.W.Frag} {p D : Addr} {H H' : Hp} (hD : tupd H D) (e : ExB D H H') : ∀ (ds : List PyData) (vs : List V), flatDA ds = true → DqAll K p H vs ds → DqAll K p H' vs ds
  | _, _, _, .nil => .nil
  | _, _, f, .cons h hs => by
    simp only [flatDA, Bool.and_eq_true] at f
    exact .cons (Dq.fl hD e _ _ f.1 h) (DqAll.fl hD e _ _ f.2 hs)
end
mutual
/-- flat data speaks of no list -/
theorem Dq.any {K : PySem.W.Frag} {p q : Addr} {H : Hp} : ∀ (d : PyData) (v : V), flatD d = true → Dq K p H v d → Dq K q H v d
  | _, _, _, .non => .non
  | _, _, _, .bl b => .bl b
  | _, _, _, .int i => .int i
  | _, _, _, .str x => .str x
  | _, _, f, .lst n m h hs => by simp [flatD] at f
  | _, _, f, .tup h hs => .tup h (DqAll.any _ _ (by simpa [flatD] using f) hs)
  | _, _, f, .emp h => by simp [flatD] at f
theorem DqAll.any {K : PySem.W.Frag} {p q : Addr} {H : Hp} : ∀ (ds : List PyData) (vs : List V), flatDA ds = true → DqAll K p H vs ds → DqAll K q H vs ds
  | _, _, _, .nil => .nil
  | _, _, f, .cons h hs => by
    simp only [flatDA, Bool.and_eq_true] at f
    exact .cons (Dq.any _ _ f.1 h) (DqAll.any _ _ f.2 hs)
end
theorem flat_frd (q : Rat) : flatD (frd q) = true := rfl
theorem flat_opt (o : Option Nat) : flatD (optD o) = true := by cases o <;> rfl
theorem flatDA_of : ∀ {ds : List PyData}, (∀ d ∈ ds, flatD d = true) → flatDA ds = true
  | [], _ => rfl
  | d :: ds, h => by
    simp only [flatDA, Bool.and_eq_true]
    exact ⟨h d List.mem_cons_self, flatDA_of fun x hx => h x (List.mem_cons_of_mem _ hx)⟩
def intsV (ns : List Nat) : List V := ns.map fun (n : Nat) => V.int n
theorem intsV_len (ns : List Nat) : (intsV ns).length = ns.length := List.length_map ..
theorem intsV_at {ns : List Nat} {i : Nat} {x : V} (h : (intsV ns)[i]? = some x) : ∃ n : Nat, ns[i]? = some n ∧ x = .int (n : Nat) := by
  unfold intsV at h
  rw [List.getElem?_map] at h
  cases hn : ns[i]? with
  | none => rw [hn] at h; cases h
  | some n =>
    rw [hn] at h
    cases h
    exact ⟨n, rfl, rfl⟩
section
variable {K : PySem.W.Frag} {p : Addr} {H H' : Hp} {x : V} {b : Nat} {q : Rat} {xs zs : List V} {qs : List Rat}
theorem AllFr.snoc (h : AllFr K b H xs qs) (f : Fr K b q x H) : AllFr K b H (xs ++ [x]) (qs ++ [q]) := by
  refine ⟨by rw [List.length_append, List.length_append, h.1]; rfl, fun n y r hy hr => ?_⟩
  by_cases c : n < xs.length
  · rw [List.getElem?_append_left c] at hy
    rw [List.getElem?_append_left (by rw [← h.1]; exact c)] at hr
    exact h.2 n y r hy hr
  · rw [List.getElem?_append_right (by omega)] at hy
    rw [List.getElem?_append_right (by rw [← h.1]; omega), ← h.1] at hr
    have e0 : n - xs.length = 0 := by
      cases hh : n - xs.length with
      | zero => rfl
      | succ m => rw [hh] at hy; cases hy
    rw [e0] at hy hr
    cases hy
    cases hr
    exact f
theorem AllFr.lst (hp : H p = some (.lst zs)) (e : ExB p H H') (h : AllFr K b H xs qs) : AllFr K b H' xs qs := ⟨h.1, fun n y r hy hr => (h.2 n y r hy hr).lst hp e⟩
theorem AllFr.of (h : DqAll K p H xs (qs.map frd)) (hb : ∀ q ∈ qs, Bd b q) : AllFr K b H xs qs := by
  refine ⟨by rw [h.len, List.length_map], fun i y r hy hr => ?_⟩
  obtain ⟨t, ht, qt⟩ := h.atG hy
  rw [hr] at ht
  cases ht
  exact qt.frq (hb _ (List.mem_of_getElem? hr))
theorem prs_of {l : Addr} : ∀ {xs : List V} {qs : List Rat}, DqAll K p H xs (qs.map frd) → (∀ q ∈ qs, Bd b q) → ∃ ps : Qs, xs = (prs ps).map (fun p => V.ref p.1) ∧ (∀ p ∈ prs ps, SqT K H p.1 [.int p.2.1, .int p.2.2]) ∧ (∀ p ∈ ps, Bd b p.2) ∧ ps.map (fun p => p.2) = qs
  | _, [], .nil, _ => ⟨[], rfl, (fun p hp => by cases hp), (fun p hp => by cases hp), rfl⟩
  | _, q :: qs, .cons h hs, hb => by
    obtain ⟨ps, h1, h2, h3, h4⟩ := prs_of (l := l) hs fun q hq => hb q (List.mem_cons_of_mem _ hq)
    obtain ⟨a, rfl, hS, bd⟩ := h.frq (b := b) (hb q List.mem_cons_self)
    refine ⟨(a, q) :: ps, ?_, ?_, ?_, ?_⟩
    · rw [h1]
      rfl
    · intro p hp
      rcases List.mem_cons.mp hp with rfl | hp
      · exact hS
      · exact h2 p hp
    · intro p hp
      rcases List.mem_cons.mp hp with rfl | hp
      · exact bd
      · exact h3 p hp
    · rw [List.map_cons, h4]
/-- a list of fractions added up -/
theorem rd_all {l T : Addr} {E : XK} {Q : VK} (hl : H l = some (.lst xs)) (h : DqAll K p H xs (qs.map frd)) (hb : ∀ q ∈ qs, Bd b q) (hn : b * qs.length + b + qs.length + 1 ≤ 3000) (tb : GxR.TabG H T)
    (k : ∀ z H', ExB T H H' → GxR.TabG H' T → Fr K (b * qs.length + b + qs.length + 1) qs.sum z H' → Q z H') : spAll K T [.ref l] H Q E := by
  obtain ⟨ps, h1, h2, h3, h4⟩ := prs_of (l := l) h hb
  have le : ps.length = qs.length := by rw [← h4, List.length_map]
  refine ⟨l, ps, b, rfl, ⟨SqL.of (by rw [hl, h1]), h2⟩, h3, by rw [le]; exact hn, tb, fun z H' e t f => k z H' e t ?_⟩
  rw [le] at f
  have : sumQ ps = qs.sum := by
    unfold sumQ
    rw [h4]
  rwa [this] at f
end
/-- a comprehension over data, with a test -/
theorem lc_data {α : Type} {K : PySem.W.Frag} {p : Addr} {J : It} {G : Hp → Prop} {xs : List V} {rows : List α} {rd out : α → PyData} {c : α → Bool} {g : TG} {tt : TT} {te : TE} {vs : List Nat} {σ : L2.St} {H1 : Hp} {D : Addr} {Qd : Hp → Prop}
    (w : Walk J xs.length G (YAt xs)) (hG : ∀ H, Ex H1 H → G H) (nD : H1 D = none) (hA : DqAll K p H1 xs (rows.map rd)) (fl : ∀ x ∈ rows, flatD (out x) = true) (hl : rows.length ≤ 900)
    (hs : ∀ x v H (R : VK) (S : Hp → Prop), x ∈ rows → Ex H1 H → Dq K p H v (rd x) → (c x = true → ∀ y H', Ex H H' → Dq K p H' y (out x) → R y H') → (c x = false → ∀ H', Ex H H' → S H') → g v (wipe σ vs) H fun σ2 H2 => wipe σ2 vs = wipe σ vs ∧ tt σ2 H2 fun b H3 => if b = true then te σ2 H3 R else S H3)
    (k : ∀ zs H, Ex H1 H → H D = some (.lst zs) → DqAll K p H zs ((rows.filter c).map out) → Qd H) :
    ∃ W : Nat → Nat → Hp → Prop, (∃ m, W 0 m (upd H1 D (.lst []))) ∧ ∀ i m H, W i m H →
      (J.stop i H ∧ Qd H) ∨ (J.go i H ∧ ∃ Nx : Hp → Prop, (∀ H', Nx H' → ∃ m', m' < m ∧ W (i + 1) m' H') ∧ ∀ x H', J.yld i H x H' → g x (wipe σ vs) H' fun σ2 H2 => wipe σ2 vs = wipe σ vs ∧ tt σ2 H2 fun b H3 =>
        if b = true then te σ2 H3 fun y H4 => ∃ acc, H4 D = some (.lst acc) ∧ acc.length < sizeLine ∧ Nx (upd H4 D (.lst (acc ++ [y]))) else Nx H3) := by
  have xl : xs.length = rows.length := by rw [hA.len, List.length_map]
  refine lc_it w (fun i H => Ex H1 H ∧ ∃ zs, H D = some (.lst zs) ∧ DqAll K p H zs (((rows.take i).filter c).map out)) ⟨Ex.new nD, [], upd_same, .nil⟩ (fun i H _ h => hG H h.1) ?_ ?_
  · rintro i x H H' hi ⟨ex, zs, hz, qs⟩ ⟨rfl, hx⟩
    obtain ⟨t, ht, qt⟩ := (DqAll.ex ex _ _ hA).atG hx
    have tm := List.mem_of_getElem? ht
    have zl : zs.length ≤ 900 := by
      rw [qs.len, List.length_map]
      refine Nat.le_trans (List.length_filter_le _ _) ?_
      rw [List.length_take]
      omega
    refine hs t x H' _ _ tm ex qt (fun hc y H2 e2 qy => ?_) (fun hc H2 e2 => ?_)
    · have hz2 := e2 _ _ hz
      refine ⟨zs, hz2, small1000 (by omega), Ex.mut (ex.trans e2) nD, zs ++ [y], upd_same, ?_⟩
      rw [take_snoc ht, List.filter_append, List.map_append]
      have e1 : List.filter c [t] = [t] := by simp [hc]
      rw [e1]
      have up : ExB D H2 (upd H2 D (.lst (zs ++ [y]))) := ExB.upd (ExB.refl D H2)
      have f1 : flatDA (((rows.take i).filter c).map out) = true := flatDA_of fun d hd => by
        obtain ⟨t', ht', rfl⟩ := List.mem_map.mp hd
        exact fl t' (List.mem_of_mem_take (List.mem_filter.mp ht').1)
      exact (DqAll.fl (tupd_l hz2) up _ _ f1 (DqAll.ex e2 _ _ qs)).append (.cons (Dq.fl (tupd_l hz2) up _ _ (fl t tm) qy) .nil)
    · refine ⟨ex.trans e2, zs, e2 _ _ hz, ?_⟩
      rw [take_snoc ht, List.filter_append]
      have e1 : List.filter c [t] = [] := by simp [hc]
      rw [e1, List.append_nil]
      exact DqAll.ex e2 _ _ qs
  · rintro H ⟨ex, zs, hz, qs⟩
    rw [xl, List.take_length] at qs
    exact k zs H ex hz qs
section
variable {K : PySem.W.Frag} {Ts : List Addr} {T : Addr} {H H' : Hp}
theorem xt_b (h : GxR.TabG H T) (e : ExB T H H') : ExT H H' := fun b o n hb => e b o (by
  rintro rfl
  obtain ⟨ps, h1, _⟩ := h
  rw [hb] at h1
  exact n ps (Option.some.inj h1)) hb
theorem TBs.b (h : TBs Ts H) (e : ExB T H H') (t : GxR.TabG H' T) : TBs Ts H' := fun t' ht => by
  by_cases c : t' = T
  · subst c
    exact t
  · obtain ⟨ps, h1, h2⟩ := h t' ht
    exact ⟨ps, e _ _ c h1, h2⟩
end
section
variable {σ : L2.St} {H : Hp} {ta tb : TE} {Q : VK} {D : Ends}
theorem s_and1 (h : Ev ta σ H (.bl true)) (k : ∀ H1, Ex H H1 → tb σ H1 Q) : tAndV ta tb σ H Q := h H (Ex.refl _) _ fun H1 e => ⟨true, rfl, by
  rw [if_pos rfl]
  exact k H1 e⟩
theorem s_retA (h : Ev ta σ H (.bl true)) (k : ∀ H1, Ex H H1 → tb σ H1 D.rt) : tRet (tAndV ta tb) D σ H := s_and1 h k
end
theorem AllFr.xt {K : PySem.W.Frag} {b : Nat} {H H' : Hp} {xs : List V} {qs : List Rat} (e : ExT H H') (h : AllFr K b H xs qs) : AllFr K b H' xs qs := ⟨h.1, fun i x q hx hq => (h.2 i x q hx hq).xt e⟩
/-! ### boxes as data, judged -/
def pzD (x : Rat × Rat) : PyData := .tuple [frd x.1, frd x.2]
def bxD (b : Bx) : PyData := .tuple [frd b.1, .tuple (b.2.map pzD)]
def bxsD (B : List Bx) : PyData := .tuple (B.map bxD)
structure PzOk (x : Rat × Rat) : Prop where
  q0 : 0 < x.1
  v0 : 0 ≤ x.2
  qb : Bd 4 x.1
  vb : Bd 4 x.2
structure BxOk (b : Bx) : Prop where
  c0 : 0 ≤ b.1
  cb : Bd 8 b.1
  l1 : 1 ≤ b.2.length
  l3 : b.2.length ≤ 3
  pz : ∀ x ∈ b.2, PzOk x
  one : (b.2.map fun x => x.1).sum = 1
abbrev tts {K : PySem.W.Frag} {mg : Str → Option Value} (T : Txt K mg) : List Addr := [T.P_add_all, T.P_are_prizes, T.P_is_boxes, T.P_is_seen]
def spPrz (K : PySem.W.Frag) : Sp := fun vs H Q _ => ∃ (p : Addr) (v : V) (x : Rat × Rat), vs = [v] ∧ Dq K p H v (pzD x) ∧ PzOk x ∧ ∀ H', Ex H H' → Q (.bl true) H'
def spPzs (K : PySem.W.Frag) (Ts : List Addr) : Sp := fun vs H Q _ => ∃ (p : Addr) (v : V) (b : Bx), vs = [v] ∧ Dq K p H v (.tuple (b.2.map pzD)) ∧ BxOk b ∧ TBs Ts H ∧ ∀ H', ExT H H' → TBs Ts H' → Q (.bl true) H'
def spBx (K : PySem.W.Frag) (Ts : List Addr) (r : V) : Sp := fun vs H Q _ => ∃ (p : Addr) (v : V) (b : Bx), vs = [v] ∧ Dq K p H v (bxD b) ∧ BxOk b ∧ TBs Ts H ∧ ∀ H', ExT H H' → TBs Ts H' → Q r H'
def spBxs (K : PySem.W.Frag) (Ts : List Addr) (r : V) : Sp := fun vs H Q _ => ∃ (p : Addr) (v : V) (B : List Bx), vs = [v] ∧ Dq K p H v (bxsD B) ∧ 1 ≤ B.length ∧ B.length ≤ 3 ∧ (∀ b ∈ B, BxOk b) ∧ TBs Ts H ∧ ∀ H', ExT H H' → TBs Ts H' → Q r H'
theorem posB_frd {q : Rat} (h : 0 < q) : posB (frd q) = true := by
  unfold posB
  rw [frB_frd, frQ_frd, Bool.true_and]
  exact decide_eq_true ((num_pos_iff q).mpr h)
theorem rd_allX {K : PySem.W.Frag} {p : Addr} {Ts : List Addr} {te : TE} : ∀ {vs : List V} {ds : List PyData} {H : Hp} {Q : Bool → Hp → Prop}, DqAll K p H vs ds → TBs Ts H → (∀ v d G (R : VK), d ∈ ds → ExT H G → TBs Ts G → Dq K p G v d → (∀ G', ExT G G' → TBs Ts G' → R (.bl true) G') → te [none, some v] G R) → (∀ G, ExT H G → TBs Ts G → Q true G) → rdAll te vs H Q
  | _, _, H, Q, .nil, t, _, k => k H (ExT.refl H) t
  | _, _, H, Q, .cons h hs, t, he, k => he _ _ H _ List.mem_cons_self (ExT.refl H) t h fun G x tG => ⟨true, rfl, fun _ => rd_allX (DqAll.xt x _ _ hs) tG (fun v d G' R hd x' t' q kR => he v d G' R (List.mem_cons_of_mem _ hd) (x.trans x') t' q kR) fun G' x' t' => k G' (x.trans x') t', fun z => nomatch z⟩
theorem ev_isDX {K : PySem.W.Frag} {p : Addr} {te : TE} {σ : L2.St} {H : Hp} {E : XK} {f : PyData → Bool} {d : PyData} (he : EvD K p te σ H d) : Ev (tCall (spIsD K Any f) [] E (tCons te tNil)) σ H (.bl (f d)) := fun H1 e Q k => he H1 e _ fun v H2 e2 q => ⟨p, v, d, rfl, q, trivial, fun H' e' => k H' (e2.trans e')⟩
theorem pz_len (x : Rat × Rat) : ∃ a b, pzD x = .tuple [a, b] := ⟨_, _, rfl⟩
section
variable {P : Program} {w : World} {K : PySem.W.Frag} {mg : Str → Option Value} {base : Heap}
theorem ok_is_prize (T : Txt K mg) : FnOk P w K mg base CX0 4 T.d_is_prize.a T.d_is_prize.fd ["value"] (spPrz K) := by
  refine T.d_is_prize.F.ok sc_is_prize (fun vs H Q E h => ?_) (fun cdv A outer s H vs Q E hr h => ?_)
  · obtain ⟨p, v, x, rfl, _⟩ := h
    rfl
  · obtain ⟨p, v, x, rfl, hd, ok, k⟩ := h
    refine ⟨_, (pss_one (ps_ret (pe_and (pe_callB call_isi (by rfl) T.n_isinstance (by decide +kernel) (pa_cons (pv 0) (pa_cons (pe_bltn (v := .ty "tuple") (by rfl) T.n_tuple (by decide +kernel) rfl) pa_nil))) (pe_and (pe_cmpR op_eq (pe_callB call_len_seq (by rfl) T.n_len (by decide +kernel) (pa_cons (pv 0) pa_nil)) pe_int (nomark _)) (pe_and (pe_call (ok_is_above_zero T) (hr.mono (by decide)) (by rfl) T.d_is_above_zero.g T.d_is_above_zero.F.kp T.d_is_above_zero.b .nil pass0 (pa_cons (pe_ix ix_tup (pv 0) pe_int (fun _ _ => rfl)) pa_nil)) (pe_one (pe_call (ok_is_from_zero T) (hr.mono (by decide)) (by rfl) T.d_is_from_zero.g T.d_is_from_zero.F.kp T.d_is_from_zero.b .nil pass0 (pa_cons (pe_ix ix_tup (pv 0) pe_int (fun _ _ => rfl)) pa_nil)))))))), ?_⟩
    refine s_ret (ev_is (ev_andV (a := true) (b := true) (ev_isi (b := true) rfl hd rfl) fun _ => ev_andV (a := true) (b := true) (ev_is (ev_op (ev_lenT rfl hd) ev_c (rv_eq rfl)) rfl) fun _ => ev_andV (a := true) (b := true) (ev_is (ev_isDX (ed_ix rfl hd rfl)) (by rw [posB_frd ok.q0])) fun _ => ev_is (ev_isDX (ed_ix rfl hd rfl)) (by rw [posZ_frd ok.v0])) rfl) fun H1 e => k H1 e
theorem ok_are_prizes (T : Txt K mg) (tb_add_all : GxR.TabB base mg T.c_add_all T.P_add_all) (tb_are_prizes : GxR.TabB base mg T.c_are_prizes T.P_are_prizes) : FnOk P w K mg base CX0 6 T.d_are_prizes.a T.d_are_prizes.fd ["value"] (spPzs K (tts T)) := by
  refine okC T.d_are_prizes.F T.h_are_prizes sc_are_prizes (fun vs H Q E h => ?_) (fun A outer s H vs Q E hr h => ?_)
  · obtain ⟨p, v, b, rfl, _⟩ := h
    rfl
  · obtain ⟨p, v, b, rfl, hd, ok, ht, k⟩ := h
    refine ⟨_, (pss_cons (ps_if (PW.pt (pw_or (pt_not (pt_val (pe_callB call_isi (by rfl) T.n_isinstance (by decide +kernel) (pa_cons (pv 0) (pa_cons (pe_bltn (v := .ty "tuple") (by rfl) T.n_tuple (by decide +kernel) rfl) pa_nil))))) (pw_or1 (pt_not (pt_chain op_le op_le pe_int (pe_callB call_len_seq (by rfl) T.n_len (by decide +kernel) (pa_cons (pv 0) pa_nil)) (pe_glob (v := .int 3) rfl T.c_MOST_PRIZES ⟨_, rfl⟩)))))) (pss_one (ps_ret pe_bl)) pss_nil)
      (pss_one (ps_ret (pe_and (pe_allT hr (by rfl) T.n_all tb_are_prizes rfl ⟨rfl, rfl, by decide, rfl, rfl, by decide, by decide⟩ (pv 0) (fun _ _ _ _ _ hr => (pe_call (ok_is_prize T) (hr.mono (by decide)) (by rfl) T.d_is_prize.g T.d_is_prize.F.kp T.d_is_prize.b .nil pass0 (pa_cons (pv 1) pa_nil))) (fun _ => rfl)) (pe_one (pe_cmpR (op_eqD hr.units) (pe_call (ok_add_all T tb_add_all) (hr.mono (by decide)) (by rfl) T.d_add_all.g T.d_add_all.F.kp T.d_add_all.b .nil pass0 (pa_cons (pe_lc (own := [("chance", 2), ("_", 3)]) (g := gTup K 2 (gCons (gName 2) (gCons (gName 3) gNil))) (tt := tYes) rfl sc_are_prizes.nd (pi_tup (pv 0)) (blkOk_by (own := [("chance", 2), ("_", 3)]) (N := n_are_prizes) (sc := defScope s_are_prizes) (by decide +kernel)) (fun _ _ _ _ _ => (pg_tup rfl (pgs_cons (pg_name (i := 2) sc_are_prizes.nd rfl (Or.inl rfl)) (pgs_cons (pg_name (i := 3) sc_are_prizes.nd rfl (Or.inl rfl)) pgs_nil)))) (fun _ _ _ _ _ => pts_nil) (fun _ _ _ _ _ => (pv 2))) pa_nil)) (pe_glob (v := .ref T.a_ONE) rfl T.c_ONE rfl) (nomark _))))))), ?_⟩
    have l1 := ok.l1
    have l3 := ok.l3
    have ll : (b.2.map pzD).length = b.2.length := List.length_map ..
    have c0 : (decide ((1 : Int) ≤ ((b.2.map pzD).length : Int)) && decide (((b.2.map pzD).length : Int) ≤ 3)) = true := by
      rw [decide_eq_true (by omega), decide_eq_true (by omega)]
      rfl
    refine s_if (b := false) (et_is (et_or (a := false) (et_is (et_not (et_B (ev_isi (b := true) rfl hd rfl))) rfl) fun _ => et_not (et_test (ev_is (ev_chain ev_c (ev_lenT (i := 0) rfl hd) ev_c (fun H => rv_I0) fun H => rv_I0) (by rw [c0])))) rfl) (fun z => nomatch z) fun _ H1 e1 => ?_
    obtain ⟨a, xs, rfl, hS, hA⟩ := (Dq.ex e1 _ _ hd).seq
    have ht1 := ht.ex e1
    refine n_next ?_
    dsimp only
    refine ⟨.ref a, rfl, a, xs, rfl, hS, ht1 _ (by simp), fun H2 tb => ?_⟩
    have e2 := Tabd.t (ht1 _ (by simp)) tb
    refine rd_allX (DqAll.xt e2 _ _ hA) (ht1.tb tb) (fun v d G R hm e t q kR => ?_) fun G eG tG => ?_
    · obtain ⟨x, hx, rfl⟩ := List.mem_map.mp hm
      exact ⟨v, rfl, p, v, x, rfl, q, ok.pz x hx, fun G' e' => kR G' (Ex.t e') (t.ex e')⟩
    refine ⟨true, rfl, ?_⟩
    rw [if_pos rfl]
    have E2 := e2.trans eG
    have hS2 := E2.st hS
    have hA2 := DqAll.xt E2 _ _ hA
    refine ⟨.ref a, rfl, a, rfl, ⟨xs, hS2⟩, fun D nD => ?_⟩
    refine lc_data (rows := b.2) (rd := pzD) (out := fun x => frd x.1) (c := fun _ => true) walk_tup (fun H e => ex_t e hS2) nD hA2 (fun x _ => flat_frd _) (by omega) (fun x v G1 R S hx ex q y n => ?_) fun zs G1 ex hz qs => ?_
    · obtain ⟨a2, u1, u2, rfl, hS3, q1, q2⟩ := q.pair
      refine ⟨a2, _, rfl, hS3, rfl, _, _, rfl, _, _, rfl, rfl, rfl, ?_⟩
      refine yes_of ?_
      rw [if_pos rfl]
      exact ⟨_, rfl, y rfl _ _ (Ex.refl _) q1⟩
    have hf : List.filter (fun _ => true) b.2 = b.2 := List.filter_eq_self.mpr fun _ _ => rfl
    rw [hf, show b.2.map (fun x => frd x.1) = (b.2.map fun x => x.1).map frd by rw [List.map_map]; rfl] at qs
    refine rd_all (E := E0) hz qs (b := 4) (fun q hq => ?_) (by rw [List.length_map]; omega) ((tG.ex ex) _ (by simp)) fun z G2 eB tb2 f => ?_
    · obtain ⟨x, hx, rfl⟩ := List.mem_map.mp hq
      exact (ok.pz x hx).qb
    have f1 : Fr K 2 1 (.ref T.a_ONE) G2 := ⟨_, rfl, .inr T.k_ONE, by decide, by decide⟩
    refine ⟨_, _, f.dp, f1.dp, rfl, rfl, ?_⟩
    rw [eqv_fr, ok.one]
    have E3 : ExT H G2 := ((Ex.t e1).trans (E2.trans (Ex.t ex))).trans (xt_b ((tG.ex ex) _ (by simp)) eB)
    exact k G2 E3 ((tG.ex ex).b eB tb2)
theorem ok_is_box (T : Txt K mg) (tb_add_all : GxR.TabB base mg T.c_add_all T.P_add_all) (tb_are_prizes : GxR.TabB base mg T.c_are_prizes T.P_are_prizes) : FnOk P w K mg base CX0 7 T.d_is_box.a T.d_is_box.fd ["value"] (spBx K (tts T) (.bl true)) := by
  refine T.d_is_box.F.ok sc_is_box (fun vs H Q E h => ?_) (fun cdv A outer s H vs Q E hr h => ?_)
  · obtain ⟨p, v, b, rfl, _⟩ := h
    rfl
  · obtain ⟨p, v, b, rfl, hd, ok, ht, k⟩ := h
    refine ⟨_, (pss_one (ps_ret (pe_and (pe_callB call_isi (by rfl) T.n_isinstance (by decide +kernel) (pa_cons (pv 0) (pa_cons (pe_bltn (v := .ty "tuple") (by rfl) T.n_tuple (by decide +kernel) rfl) pa_nil))) (pe_and (pe_cmpR op_eq (pe_callB call_len_seq (by rfl) T.n_len (by decide +kernel) (pa_cons (pv 0) pa_nil)) pe_int (nomark _)) (pe_and (pe_call (ok_is_from_zero T) (hr.mono (by decide)) (by rfl) T.d_is_from_zero.g T.d_is_from_zero.F.kp T.d_is_from_zero.b .nil pass0 (pa_cons (pe_ix ix_tup (pv 0) pe_int (fun _ _ => rfl)) pa_nil)) (pe_one (pe_call (ok_are_prizes T tb_add_all tb_are_prizes) (hr.mono (by decide)) (by rfl) T.d_are_prizes.g T.d_are_prizes.F.kp T.d_are_prizes.b .nil pass0 (pa_cons (pe_ix ix_tup (pv 0) pe_int (fun _ _ => rfl)) pa_nil)))))))), ?_⟩
    refine s_retA (ev_isi (b := true) rfl hd rfl) fun H1 e1 => ?_
    have hd1 := Dq.ex e1 _ _ hd
    refine s_and1 (ev_is (ev_op (ev_lenT rfl hd1) ev_c (rv_eq rfl)) rfl) fun H2 e2 => ?_
    have hd2 := Dq.ex e2 _ _ hd1
    refine s_and1 (ev_is (ev_isDX (ed_ix rfl hd2 rfl)) (by rw [posZ_frd ok.c0])) fun H3 e3 => ?_
    have hd3 := Dq.ex e3 _ _ hd2
    have E3 := (e1.trans e2).trans e3
    refine ed_ix (K := K) (p := p) (i := 0) (j := 1) rfl hd3 rfl H3 (Ex.refl _) _ fun u H4 e4 q => ?_
    exact ⟨p, u, b, rfl, q, ok, ht.ex (E3.trans e4), fun H5 e5 t5 => k H5 ((Ex.t (E3.trans e4)).trans e5) t5⟩
theorem ok_is_boxes (T : Txt K mg) (tb_add_all : GxR.TabB base mg T.c_add_all T.P_add_all) (tb_are_prizes : GxR.TabB base mg T.c_are_prizes T.P_are_prizes) (tb_is_boxes : GxR.TabB base mg T.c_is_boxes T.P_is_boxes) : FnOk P w K mg base CX0 9 T.d_is_boxes.a T.d_is_boxes.fd ["value"] (spBxs K (tts T) (.bl true)) := by
  refine okC T.d_is_boxes.F T.h_is_boxes sc_is_boxes (fun vs H Q E h => ?_) (fun A outer s H vs Q E hr h => ?_)
  · obtain ⟨p, v, B, rfl, _⟩ := h
    rfl
  · obtain ⟨p, v, B, rfl, hd, l1, l3, ok, ht, k⟩ := h
    refine ⟨_, (pss_one (ps_ret (pe_and (pe_callB call_isi (by rfl) T.n_isinstance (by decide +kernel) (pa_cons (pv 0) (pa_cons (pe_bltn (v := .ty "tuple") (by rfl) T.n_tuple (by decide +kernel) rfl) pa_nil))) (pe_and (pe_chain op_le op_le pe_int (pe_callB call_len_seq (by rfl) T.n_len (by decide +kernel) (pa_cons (pv 0) pa_nil)) (pe_glob (v := .int 3) rfl T.c_MOST_BOXES ⟨_, rfl⟩)) (pe_one (pe_allT hr (by rfl) T.n_all tb_is_boxes rfl ⟨rfl, rfl, by decide, rfl, rfl, by decide, by decide⟩ (pv 0) (fun _ _ _ _ _ hr => (pe_call (ok_is_box T tb_add_all tb_are_prizes) (hr.mono (by decide)) (by rfl) T.d_is_box.g T.d_is_box.F.kp T.d_is_box.b .nil pass0 (pa_cons (pv 1) pa_nil))) (fun _ => rfl))))))), ?_⟩
    have ll : (B.map bxD).length = B.length := List.length_map ..
    have c0 : (decide ((1 : Int) ≤ ((B.map bxD).length : Int)) && decide (((B.map bxD).length : Int) ≤ 3)) = true := by
      rw [decide_eq_true (by omega), decide_eq_true (by omega)]
      rfl
    refine s_retA (ev_isi (b := true) rfl hd rfl) fun H1 e1 => ?_
    have hd1 := Dq.ex e1 _ _ hd
    refine s_and1 (ev_is (ev_chain ev_c (ev_lenT (i := 0) rfl hd1) ev_c (fun H => rv_I0) fun H => rv_I0) (by rw [c0])) fun H2 e2 => ?_
    obtain ⟨a, xs, rfl, hS, hA⟩ := (Dq.ex e2 _ _ hd1).seq
    have ht2 := ht.ex (e1.trans e2)
    refine ⟨.ref a, rfl, a, xs, rfl, hS, ht2 _ (by simp), fun H3 tb => ?_⟩
    have e3 := Tabd.t (ht2 _ (by simp)) tb
    refine rd_allX (DqAll.xt e3 _ _ hA) (ht2.tb tb) (fun v d G R hm e t q kR => ?_) fun G eG tG => k G ((Ex.t (e1.trans e2)).trans (e3.trans eG)) tG
    obtain ⟨b, hb, rfl⟩ := List.mem_map.mp hm
    exact ⟨v, rfl, p, v, b, rfl, q, ok b hb, t, fun G' e' t' => kR G' e' t'⟩
end
/-! ### required -/
def optsD (s : Seen) : PyData := .tuple (s.map optD)
theorem nb_nat {k n : Nat} (h : k < n) : nbB (.int (k : Nat)) (n : Int) = true := by
  show (true && (decide ((0 : Int) ≤ k) && decide ((k : Int) < n))) = true
  rw [decide_eq_true (by omega), decide_eq_true (by omega)]
  rfl
theorem bx_pair {K : PySem.W.Frag} {p : Addr} {H : Hp} {v : V} {b : Bx} (h : Dq K p H v (bxD b)) : ∃ a x c ys, v = .ref a ∧ SqT K H a [x, .ref c] ∧ Dq K p H x (frd b.1) ∧ SqT K H c ys ∧ DqAll K p H ys (b.2.map pzD) := by
  obtain ⟨a, x, y, rfl, hS, h1, h2⟩ := Dq.pair h
  obtain ⟨c, ys, rfl, hS2, hA⟩ := h2.seq
  exact ⟨a, x, c, ys, rfl, hS, h1, hS2, hA⟩
theorem rd_seen {K : PySem.W.Frag} {p a c : Addr} {xs ys : List V} {B : List Bx} {s : Seen} {E : XK} {Q : Bool → Hp → Prop} (lt : ∀ (i j : Nat) (b : Bx), s[i]? = some (some j) → B[i]? = some b → j < b.2.length) : ∀ (m i : Nat) (H : Hp), i + m = B.length → xs.length = B.length → ys.length = B.length → SqT K H a xs → SqT K H c ys → DqAll K p H xs (B.map bxD) → DqAll K p H ys (s.map optD) → (∀ H', Ex H H' → Q true H') →
    rdAllI (gTup K 2 (gCons (gName 1) (gCons (gName 2) gNil))) (tOrV (tOp (fun x y H Q => y = V.non ∧ Q (V.bl (decide (x = V.non))) H) (tVar 1) (tC V.non)) (tCall (spNBd K) [] E (tCons (tVar 1) (tCons (tCB (fun xs H_1 Q => ∃ p ys, xs = [V.ref p] ∧ (SqL K H_1 p ys ∨ SqT K H_1 p ys) ∧ Q (V.int ys.length) H_1) (tCons (tOp (rIxT K) (tVar 2) (tC (V.int 1))) tNil)) tNil)))) (RZ.ItzT K c a) 3 m i H Q
  | 0, i, H, e, lx, ly, hS, hS2, hA, hA2, k => ⟨⟨ys, xs, hS2, hS, .inl (by omega)⟩, k H (Ex.refl H)⟩
  | m + 1, i, H, e, lx, ly, hS, hS2, hA, hA2, k => by
    have ex := List.getElem?_eq_getElem (show i < xs.length by omega)
    have ey := List.getElem?_eq_getElem (show i < ys.length by omega)
    refine ⟨⟨ys, xs, _, _, hS2, hS, ey, ex⟩, ?_⟩
    rintro x H1 ⟨T0, y, z, rfl, hT, rfl, hy, hz⟩ σ hl hz0
    have hy' := hy ys hS2
    have hz' := hz xs hS
    obtain ⟨b, hb, qb⟩ := hA.atG hz'
    obtain ⟨o, ho, qo⟩ := hA2.atG hy'
    cases opt_V qo
    have x1 := Ex.new (o := .tup [optV o, z]) hT
    match σ, hl, hz0 with
    | [s0, s1, s2], _, hz0 =>
      simp only [List.getElem?_cons_zero, Option.some.injEq] at hz0
      subst hz0
      refine ⟨T0, _, rfl, SqT.of upd_same, rfl, _, _, rfl, _, _, rfl, rfl, ?_⟩
      have fin : ∀ G, Ex (upd H T0 (.tup [optV o, z])) G → ∃ bb, V.bl true = V.bl bb ∧ (bb = true → rdAllI (gTup K 2 (gCons (gName 1) (gCons (gName 2) gNil))) (tOrV (tOp (fun x y H Q => y = V.non ∧ Q (V.bl (decide (x = V.non))) H) (tVar 1) (tC V.non)) (tCall (spNBd K) [] E (tCons (tVar 1) (tCons (tCB (fun xs H_1 Q => ∃ p ys, xs = [V.ref p] ∧ (SqL K H_1 p ys ∨ SqT K H_1 p ys) ∧ Q (V.int ys.length) H_1) (tCons (tOp (rIxT K) (tVar 2) (tC (V.int 1))) tNil)) tNil)))) (RZ.ItzT K c a) 3 m (i + 1) G Q) ∧ (bb = false → Q false G) := fun G eG => ⟨true, rfl, fun _ => rd_seen lt m (i + 1) G (by omega) lx ly (ex_t (x1.trans eG) hS) (ex_t (x1.trans eG) hS2) (DqAll.ex (x1.trans eG) _ _ hA) (DqAll.ex (x1.trans eG) _ _ hA2) fun H' e' => k H' ((x1.trans eG).trans e'), fun z => nomatch z⟩
      refine ⟨rfl, rfl, ?_⟩
      cases o with
      | none =>
        refine ⟨_, rfl, rfl, true, rfl, ?_⟩
        rw [if_pos rfl]
        exact fin _ (Ex.refl _)
      | some n =>
        refine ⟨_, rfl, rfl, false, rfl, ?_⟩
        rw [if_neg (by decide)]
        obtain ⟨a1, x2, c1, zs, rfl, hS3, _, hS4, hA4⟩ := bx_pair (Dq.ex x1 _ _ qb)
        refine ⟨_, rfl, _, rfl, a1, _, _, _, rfl, rfl, hS3, rfl, c1, zs, rfl, .inr hS4, ?_⟩
        have nl := lt i n b ho hb
        rw [hA4.len, List.length_map]
        refine ⟨p, _, .int (n : Nat), _, rfl, .int _, fun H2 e2 => ?_⟩
        rw [nb_nat nl]
        exact fin H2 e2
def spSee (K : PySem.W.Frag) (Ts : List Addr) (r : V) : Sp := fun vs H Q _ => ∃ (p : Addr) (u v : V) (B : List Bx) (s : Seen), vs = [u, v] ∧ Dq K p H u (bxsD B) ∧ Dq K p H v (optsD s) ∧ 1 ≤ B.length ∧ B.length ≤ 3 ∧ (∀ b ∈ B, BxOk b) ∧ SnOk B s ∧ TBs Ts H ∧ ∀ H', ExT H H' → TBs Ts H' → Q r H'
section
variable {P : Program} {w : World} {K : PySem.W.Frag} {mg : Str → Option Value} {base : Heap}
theorem ok_require_box (T : Txt K mg) (tb_add_all : GxR.TabB base mg T.c_add_all T.P_add_all) (tb_are_prizes : GxR.TabB base mg T.c_are_prizes T.P_are_prizes) : FnOk P w K mg base CX0 8 T.d_require_box.a T.d_require_box.fd ["value"] (spBx K (tts T) .non) := by
  refine T.d_require_box.F.ok sc_require_box (fun vs H Q E h => ?_) (fun cdv A outer s H vs Q E hr h => ?_)
  · obtain ⟨p, v, b, rfl, _⟩ := h
    rfl
  · obtain ⟨p, v, b, rfl, hd, ok, hT, k⟩ := h
    refine ⟨_, (pss_one (ps_if (pt_not (pt_val (pe_call (ok_is_box T tb_add_all tb_are_prizes) (hr.mono (by decide)) (by rfl) T.d_is_box.g T.d_is_box.F.kp T.d_is_box.b .nil pass0 (pa_cons (pv 0) pa_nil)))) (pss_one ps_never) pss_nil)), ?_⟩
    refine ⟨v, rfl, p, v, b, rfl, hd, ok, hT, fun H1 eb ht => ⟨true, rfl, ?_⟩⟩
    refine iteF ?_
    exact n_next (k H1 eb ht)
theorem ok_require_boxes (T : Txt K mg) (tb_add_all : GxR.TabB base mg T.c_add_all T.P_add_all) (tb_are_prizes : GxR.TabB base mg T.c_are_prizes T.P_are_prizes) (tb_is_boxes : GxR.TabB base mg T.c_is_boxes T.P_is_boxes) : FnOk P w K mg base CX0 10 T.d_require_boxes.a T.d_require_boxes.fd ["value"] (spBxs K (tts T) .non) := by
  refine T.d_require_boxes.F.ok sc_require_boxes (fun vs H Q E h => ?_) (fun cdv A outer s H vs Q E hr h => ?_)
  · obtain ⟨p, v, B, rfl, _⟩ := h
    rfl
  · obtain ⟨p, v, B, rfl, hd, l1, l3, ok, hT, k⟩ := h
    refine ⟨_, (pss_one (ps_if (pt_not (pt_val (pe_call (ok_is_boxes T tb_add_all tb_are_prizes tb_is_boxes) (hr.mono (by decide)) (by rfl) T.d_is_boxes.g T.d_is_boxes.F.kp T.d_is_boxes.b .nil pass0 (pa_cons (pv 0) pa_nil)))) (pss_one ps_never) pss_nil)), ?_⟩
    refine ⟨v, rfl, p, v, B, rfl, hd, l1, l3, ok, hT, fun H1 eb ht => ⟨true, rfl, ?_⟩⟩
    refine iteF ?_
    exact n_next (k H1 eb ht)
theorem ok_is_seen (T : Txt K mg) (tb_is_seen : GxR.TabB base mg T.c_is_seen T.P_is_seen) : FnOk P w K mg base CX0 4 T.d_is_seen.a T.d_is_seen.fd ["boxes", "value"] (spSee K (tts T) (.bl true)) := by
  refine okC T.d_is_seen.F T.h_is_seen sc_is_seen (fun vs H Q E h => ?_) (fun A outer s H vs Q E hr h => ?_)
  · obtain ⟨p, u, v, B, s, rfl, _⟩ := h
    rfl
  · obtain ⟨p, u, v, B, s, rfl, hu, hv, l1, l3, ok, sn, ht, k⟩ := h
    refine ⟨_, (pss_cons (ps_if (PW.pt (pw_or (pt_not (pt_val (pe_callB call_isi (by rfl) T.n_isinstance (by decide +kernel) (pa_cons (pv 1) (pa_cons (pe_bltn (v := .ty "tuple") (by rfl) T.n_tuple (by decide +kernel) rfl) pa_nil))))) (pw_or1 (pt_cmpR op_ne (pe_callB call_len_seq (by rfl) T.n_len (by decide +kernel) (pa_cons (pv 1) pa_nil)) (pe_callB call_len_seq (by rfl) T.n_len (by decide +kernel) (pa_cons (pv 0) pa_nil)) (nomark _))))) (pss_one (ps_ret pe_bl)) pss_nil)
      (pss_one (ps_ret (pe_allI (xs := ["entry", "box"]) (te := tOrV (tOp (fun x y H Q => y = V.non ∧ Q (V.bl (decide (x = V.non))) H) (tVar 1) (tC V.non)) (tCall (spNBd K) [] E0 (tCons (tVar 1) (tCons (tCB (fun xs H_1 Q => ∃ p ys, xs = [V.ref p] ∧ (SqL K H_1 p ys ∨ SqT K H_1 p ys) ∧ Q (V.int ys.length) H_1) (tCons (tOp (rIxT K) (tVar 2) (tC (V.int 1))) tNil)) tNil)))) hr (by rfl) T.n_all tb_is_seen rfl ⟨rfl, rfl, by decide, rfl, by decide⟩ (RZ.pi_zipA (by rfl) T.n_zip (pa_cons (pv 1) (pa_cons (pv 0) pa_nil))) (fun _ _ _ _ _ ec => pg_two ec (by decide +kernel) (by decide +kernel) (by decide +kernel)) (fun _ _ _ _ _ _ hr => (pe_or (pe_cmpR op_isN (pv 1) pe_non (nomark _)) (pe_one (pe_call (ok_is_number_below T) (hr.mono (by decide)) (by rfl) T.d_is_number_below.g T.d_is_number_below.F.kp T.d_is_number_below.b .nil pass0 (pa_cons (pv 1) (pa_cons (pe_callB call_len_seq (by rfl) T.n_len (by decide +kernel) (pa_cons (pe_ix ix_tup (pv 2) pe_int (fun _ _ => rfl)) pa_nil)) pa_nil)))))) (fun _ => rfl))))), ?_⟩
    obtain ⟨sl, slt⟩ := sn
    have ll : (B.map bxD).length = B.length := List.length_map ..
    have l2 : (s.map optD).length = s.length := List.length_map ..
    have hv0 : Dq K p H v (.tuple (s.map optD)) := hv
    have hu0 : Dq K p H u (.tuple (B.map bxD)) := hu
    refine s_if (b := false) (et_is (et_or (a := false) (et_is (et_not (et_B (ev_isi (i := 1) (b := true) rfl hv rfl))) rfl) fun _ => et_is (et_test (ev_op (ev_lenT (i := 1) rfl hv0) (ev_lenT (i := 0) rfl hu0) (rv_ne rfl))) (by rw [ll, l2, sl]; simp)) rfl) (fun z => nomatch z) fun _ H1 e1 => ?_
    obtain ⟨a, xs, rfl, hS, hA⟩ := (Dq.ex e1 _ _ hu0).seq
    obtain ⟨c, ys, rfl, hS2, hA2⟩ := (Dq.ex e1 _ _ hv0).seq
    have ht1 := ht.ex e1
    have xl : xs.length = B.length := by rw [hA.len, ll]
    have yl : ys.length = B.length := by rw [hA2.len, l2, sl]
    refine n_next ?_
    dsimp only
    refine ⟨_, rfl, _, rfl, c, a, ys, xs, rfl, .inr ⟨hS2, hS, ht1 _ (by simp), fun H2 tb => ⟨B.length, ?_⟩⟩⟩
    have e2 := Tabd.t (ht1 _ (by simp)) tb
    exact rd_seen (p := p) slt B.length 0 H2 (by omega) xl yl (e2.st hS) (e2.st hS2) (DqAll.xt e2 _ _ hA) (DqAll.xt e2 _ _ hA2) fun H3 e3 => k H3 (((Ex.t e1).trans e2).trans (Ex.t e3)) ((ht1.tb tb).ex e3)
theorem ok_require_boxes_and_seen (T : Txt K mg) (tb_add_all : GxR.TabB base mg T.c_add_all T.P_add_all) (tb_are_prizes : GxR.TabB base mg T.c_are_prizes T.P_are_prizes) (tb_is_boxes : GxR.TabB base mg T.c_is_boxes T.P_is_boxes) (tb_is_seen : GxR.TabB base mg T.c_is_seen T.P_is_seen) : FnOk P w K mg base CX0 11 T.d_require_boxes_and_seen.a T.d_require_boxes_and_seen.fd ["boxes", "seen"] (spSee K (tts T) .non) := by
  refine T.d_require_boxes_and_seen.F.ok sc_require_boxes_and_seen (fun vs H Q E h => ?_) (fun cdv A outer s H vs Q E hr h => ?_)
  · obtain ⟨p, u, v, B, s, rfl, _⟩ := h
    rfl
  · obtain ⟨p, u, v, B, s, rfl, hu, hv, l1, l3, ok, sn, ht, k⟩ := h
    refine ⟨_, (pss_cons (ps_expr (pe_call (ok_require_boxes T tb_add_all tb_are_prizes tb_is_boxes) (hr.mono (by decide)) (by rfl) T.d_require_boxes.g T.d_require_boxes.F.kp T.d_require_boxes.b .nil pass0 (pa_cons (pv 0) pa_nil)))
      (pss_one (ps_if (pt_not (pt_val (pe_call (ok_is_seen T tb_is_seen) (hr.mono (by decide)) (by rfl) T.d_is_seen.g T.d_is_seen.F.kp T.d_is_seen.b .nil pass0 (pa_cons (pv 0) (pa_cons (pv 1) pa_nil))))) (pss_one ps_never) pss_nil))), ?_⟩
    refine n_seq ?_
    refine ⟨u, rfl, p, u, B, rfl, hu, l1, l3, ok, ht, fun H1 e1 t1 => ?_⟩
    refine ⟨u, rfl, v, rfl, p, u, v, B, s, rfl, Dq.xt e1 _ _ hu, Dq.xt e1 _ _ hv, l1, l3, ok, sn, t1, fun H2 e2 t2 => ⟨true, rfl, ?_⟩⟩
    refine iteF ?_
    exact n_next (k H2 (e1.trans e2) t2)
end
theorem flat_bx (b : Bx) : flatD (bxD b) = true := by
  have : flatDA (b.2.map pzD) = true := flatDA_of fun d hd => by
    obtain ⟨q, _, rfl⟩ := List.mem_map.mp hd
    simp [pzD, flatD, flatDA, flat_frd]
  simp [bxD, flatD, flatDA, flat_frd, this]
/-! ### what is known of states: the dict -/
/-- all but tables and dicts of nested keys stays -/
def ExN (H H' : Hp) : Prop := ∀ b o, (∀ ps, o ≠ HO.tbl ps) → (∀ φ, o ≠ HO.ext φ) → H b = some o → H' b = some o
section
variable {K : PySem.W.Frag} {p a : Addr} {H H1 H2 H' : Hp} {xs : List V} {v : V} {b : Nat} {q : Rat}
theorem ExN.refl (H : Hp) : ExN H H := fun _ _ _ _ h => h
theorem ExN.trans (e : ExN H H1) (e' : ExN H1 H2) : ExN H H2 := fun b o n m h => e' b o n m (e b o n m h)
theorem ExT.n (e : ExT H H') : ExN H H' := fun b o n _ h => e b o n h
theorem Ex.n (e : Ex H H') : ExN H H' := fun b o _ _ h => e b o h
theorem ExN.l (e : ExN H H') (h : H a = some (.lst xs)) : H' a = some (.lst xs) := e a _ (fun _ z => nomatch z) (fun _ z => nomatch z) h
theorem ExN.tp (e : ExN H H') (h : H a = some (.tup xs)) : H' a = some (.tup xs) := e a _ (fun _ z => nomatch z) (fun _ z => nomatch z) h
theorem ExN.k {kvs : List (Key × V)} (e : ExN H H') (h : H a = some (.dK kvs)) : H' a = some (.dK kvs) := e a _ (fun _ z => nomatch z) (fun _ z => nomatch z) h
theorem ExN.st (e : ExN H H') (h : SqT K H a xs) : SqT K H' a xs := by
  rcases h with (h | ⟨o, h⟩) | h
  · exact .inl (.inl (e a _ (fun _ z => nomatch z) (fun _ z => nomatch z) h))
  · exact .inl (.inr ⟨o, e a _ (fun _ z => nomatch z) (fun _ z => nomatch z) h⟩)
  · exact .inr h
mutual
theorem Dq.xn (e : ExN H H') : ∀ (d : PyData) (v : V), Dq K p H v d → Dq K p H' v d
  | _, _, .non => .non
  | _, _, .bl b => .bl b
  | _, _, .int i => .int i
  | _, _, .str x => .str x
  | _, _, .lst n m h hs => .lst n m (ExN.l e h) (DqAll.xn e _ _ hs)
  | _, _, .tup h hs => .tup (ExN.st e h) (DqAll.xn e _ _ hs)
  | _, _, .emp h => .emp (ExN.k e h)
theorem DqAll.xn (e : ExN H H') : ∀ (ds : List PyData) (vs : List V), DqAll K p H vs ds → DqAll K p H' vs ds
  | _, _, .nil => .nil
  | _, _, .cons h hs => .cons (Dq.xn e _ _ h) (DqAll.xn e _ _ hs)
end
theorem Fr.xn (e : ExN H H') (h : Fr K b q v H) : Fr K b q v H' := by
  obtain ⟨a, rfl, h, x⟩ := h
  exact ⟨a, rfl, e.st h, x⟩
theorem xn_ext {φ ψ : Heap → Prop} {d : Addr} (h : H d = some (.ext φ)) : ExN H (upd H d (.ext ψ)) := fun b o _ m hb => by
  rw [upd_ne (by rintro rfl; rw [h] at hb; exact m φ (Option.some.inj hb).symm)]
  exact hb
end
def kyO : Option Nat → NestedKey
  | none => .none
  | some n => .num (n : Int)
def kyB (s : Seen) : NestedKey := .tup (s.map kyO)
theorem kyO_inj {a b : Option Nat} (h : kyO a = kyO b) : a = b := by
  cases a <;> cases b <;> simp [kyO] at h ⊢
  omega
theorem kyB_inj {s t : Seen} (h : kyB s = kyB t) : s = t := by
  unfold kyB at h
  injection h with h
  exact (List.map_inj_right fun _ _ e => kyO_inj e).mp h
theorem ky_pair : ∀ s : Seen, Paired sk (s.map kyO) (s.map optV)
  | [] => .nil
  | none :: s => .cons rfl (ky_pair s)
  | some n :: s => .cons rfl (ky_pair s)
theorem kyN_seen {H : Hp} {b : Addr} {s : Seen} (h : H b = some (.tup (s.map optV))) : KyN H b (kyB s) := ⟨_, _, rfl, h, ky_pair s⟩
theorem opts_dq {K : PySem.W.Frag} {p : Addr} {H : Hp} : ∀ s : Seen, DqAll K p H (s.map optV) (s.map optD)
  | [] => .nil
  | _ :: s => .cons opt_D (opts_dq s)
def bnS : Nat → Nat
  | 0 => 4
  | 1 => 50
  | _ => 280
theorem bnS_le (n : Nat) : bnS n ≤ 280 := by
  unfold bnS
  split <;> decide
def gB : Nat → Nat
  | 0 => 1
  | k + 1 => 1 + 9 * gB k
def gM : Nat → Nat
  | 0 => 0
  | k + 1 => 3 * gB k
theorem gB_gM (k : Nat) : gB k = 1 + 3 * gM k := by
  cases k with
  | zero => rfl
  | succ k =>
    show 1 + 9 * gB k = 1 + 3 * (3 * gB k)
    omega
/-- the dict at d tells best worths -/
structure KnB (P : Program) (w : World) (K : PySem.W.Frag) (B : List Bx) (d : Addr) (N : Nat) (H : Hp) : Prop where
  at_ : ∃ kvs, DN P w H d kvs ∧ kvs.length ≤ N ∧ ∀ s v, valV kvs (kyB s) = some v → SnOk B s → Fr K (bnS (nnS s)) (best B s) v H
section
variable {P : Program} {w : World} {K : PySem.W.Frag} {B : List Bx} {d : Addr} {N M : Nat} {H H' : Hp}
theorem KnB.xt (e : ExT H H') (h : KnB P w K B d N H) : KnB P w K B d N H' := by
  obtain ⟨kvs, h1, h2, h3⟩ := h
  exact ⟨kvs, h1.keeps (fun φ h => e _ _ (fun _ z => nomatch z) h) (fun b ys h => e _ _ (fun _ z => nomatch z) h), h2, fun s v hv ok => (h3 s v hv ok).xt e⟩
theorem KnB.ex (e : Ex H H') (h : KnB P w K B d N H) : KnB P w K B d N H' := h.xt (Ex.t e)
/-- a list's change leaves it -/
theorem KnB.lst {l : Addr} {xs : List V} {o : HO} (hl : H l = some (.lst xs)) (h : KnB P w K B d N H) : KnB P w K B d N (upd H l o) := by
  obtain ⟨kvs, h1, h2, h3⟩ := h
  have keep : ∀ b o', (∀ ys, o' ≠ .lst ys) → H b = some o' → upd H l o b = some o' := fun b o' n hb => by
    rw [upd_ne (by rintro rfl; rw [hl] at hb; exact n xs (Option.some.inj hb).symm)]
    exact hb
  refine ⟨kvs, h1.keeps (fun φ h => keep _ _ (fun _ z => nomatch z) h) (fun b ys h => keep _ _ (fun _ z => nomatch z) h), h2, fun s v hv ok => ?_⟩
  obtain ⟨a, rfl, hS, bd⟩ := h3 s v hv ok
  refine ⟨a, rfl, ?_, bd⟩
  rcases hS with (hS | ⟨o', hS⟩) | hS
  · exact .inl (.inl (keep _ _ (fun _ z => nomatch z) hS))
  · exact .inl (.inr ⟨o', keep _ _ (fun _ z => nomatch z) hS⟩)
  · exact .inr hS
theorem KnB.mono (e : N ≤ M) (h : KnB P w K B d N H) : KnB P w K B d M H := by
  obtain ⟨kvs, h1, h2, h3⟩ := h
  exact ⟨kvs, h1, Nat.le_trans h2 e, h3⟩
theorem KnB.new (h : DN P w H d []) : KnB P w K B d 0 H := ⟨[], h, Nat.le_refl _, fun s v hv => nomatch hv⟩
theorem TBs.lst {Ts : List Addr} {l : Addr} {xs : List V} {o : HO} (hl : H l = some (.lst xs)) (h : TBs Ts H) : TBs Ts (L2.upd H l o) := fun t ht => by
  obtain ⟨ps, h1, h2⟩ := h t ht
  exact ⟨ps, by rw [upd_ne (by rintro rfl; rw [hl] at h1; cases h1)]; exact h1, h2⟩
theorem TBs.ext {Ts : List Addr} {φ : Heap → Prop} {o : HO} (hl : H d = some (.ext φ)) (h : TBs Ts H) : TBs Ts (L2.upd H d o) := fun t ht => by
  obtain ⟨ps, h1, h2⟩ := h t ht
  exact ⟨ps, by rw [upd_ne (by rintro rfl; rw [hl] at h1; cases h1)]; exact h1, h2⟩
end
/-! ### moves as data -/
def leaveD : PyData := .tuple [.str "leave"]
def mvD (i : Nat) : Option Nat → PyData
  | none => .tuple [.str "open", .int (i : Nat)]
  | some _ => .tuple [.str "take", .int (i : Nat)]
def mvRows (f : Seen → Rat) (s : Seen) : Nat → Seen → List Bx → List (PyData × Rat)
  | i, o :: os, b :: bs => (mvD i o, mvR f s i b o) :: mvRows f s (i + 1) os bs
  | _, _, _ => []
def rowD (r : PyData × Rat) : PyData := .tuple [r.1, frd r.2]
def mvAll (B : List Bx) (s : Seen) : List (PyData × Rat) := (leaveD, 0) :: mvRows (best B) s 0 s B
theorem mvRows_snd (f : Seen → Rat) (s : Seen) : ∀ (os : Seen) (bs : List Bx) (i : Nat), (mvRows f s i os bs).map (fun r => r.2) = mvsR f s i os bs
  | [], _, _ => by unfold mvRows mvsR; rfl
  | _ :: _, [], _ => by unfold mvRows mvsR; rfl
  | o :: os, b :: bs, i => by
    unfold mvRows mvsR
    rw [List.map_cons, mvRows_snd f s os bs (i + 1)]
theorem mvAll_max (B : List Bx) (s : Seen) : maxQ 0 ((mvAll B s).map fun r => r.2) = best B s := by
  unfold mvAll
  rw [List.map_cons, mvRows_snd, best_eq]
  show maxQ (if (0 : Rat) < 0 then 0 else 0) _ = _
  rw [if_neg (by decide)]
  have : ∀ (xs : List Rat) (m : Rat), maxQ m xs = xs.foldl (fun m q => if m < q then q else m) m := by
    intro xs
    induction xs with
    | nil => intro m; rfl
    | cons x xs ih => intro m; exact ih _
  exact this _ _
theorem mvRows_at (f : Seen → Rat) (s : Seen) : ∀ (os : Seen) (bs : List Bx) (i j : Nat) (o : Option Nat) (b : Bx), os[j]? = some o → bs[j]? = some b → (mvRows f s i os bs)[j]? = some (mvD (i + j) o, mvR f s (i + j) b o)
  | [], _, _, _, _, _, h, _ => by simp at h
  | _ :: _, [], _, _, _, _, _, h => by simp at h
  | o' :: os, b' :: bs, i, 0, o, b, h, h' => by
    simp only [List.getElem?_cons_zero, Option.some.injEq] at h h'
    subst h h'
    rfl
  | o' :: os, b' :: bs, i, j + 1, o, b, h, h' => by
    simp only [List.getElem?_cons_succ] at h h'
    unfold mvRows
    rw [List.getElem?_cons_succ, mvRows_at f s os bs (i + 1) j o b h h', show i + 1 + j = i + (j + 1) by omega]
theorem mvRows_len (f : Seen → Rat) (s : Seen) : ∀ (os : Seen) (bs : List Bx) (i : Nat), os.length = bs.length → (mvRows f s i os bs).length = os.length
  | [], [], _, _ => rfl
  | _ :: os, _ :: bs, i, h => by
    unfold mvRows
    rw [List.length_cons, List.length_cons, mvRows_len f s os bs (i + 1) (by simpa using h)]
theorem opnL_at (f : Nat → Rat) : ∀ (ps : List (Rat × Rat)) (k j : Nat) (x : Rat × Rat), ps[j]? = some x → (opnL f k ps)[j]? = some (x.1 * f (k + j))
  | [], _, _, _, h => by simp at h
  | y :: ps, k, 0, x, h => by
    simp only [List.getElem?_cons_zero, Option.some.injEq] at h
    subst h
    rfl
  | y :: ps, k, j + 1, x, h => by
    simp only [List.getElem?_cons_succ] at h
    show (opnL f (k + 1) ps)[j]? = _
    rw [opnL_at f ps (k + 1) j x h, show k + 1 + j = k + (j + 1) by omega]
theorem opnL_len (f : Nat → Rat) : ∀ (ps : List (Rat × Rat)) (k : Nat), (opnL f k ps).length = ps.length
  | [], _ => rfl
  | _ :: ps, k => by
    show (opnL f (k + 1) ps).length + 1 = _
    rw [opnL_len f ps (k + 1)]
    rfl
theorem sn_set {B : List Bx} {s : Seen} {i k : Nat} {b : Bx} (h : SnOk B s) (hb : B[i]? = some b) (hk : k < b.2.length) : SnOk B (s.set i (some k)) := by
  refine ⟨by rw [List.length_set]; exact h.l, fun j m c hj hc => ?_⟩
  by_cases e : i = j
  · subst e
    rw [hb] at hc
    cases hc
    have il : i < s.length := by
      rw [h.l]
      exact (List.getElem?_eq_some_iff.mp hb).1
    rw [List.getElem?_set_self il] at hj
    cases hj
    exact hk
  · rw [List.getElem?_set_ne e] at hj
    exact h.lt j m c hj hc
def spBst (P : Program) (w : World) (K : PySem.W.Frag) (Ts : List Addr) (k : Nat) : Sp := fun vs H Q _ => ∃ (p : Addr) (u : V) (c d : Addr) (B : List Bx) (s : Seen) (N : Nat), vs = [u, .ref c, .ref d] ∧ Dq K p H u (bxsD B) ∧ H c = some (.tup (s.map optV)) ∧ B.length ≤ 3 ∧ (∀ b ∈ B, BxOk b) ∧ SnOk B s ∧ nnS s ≤ k ∧ k ≤ 2 ∧ N + 1000 * k ≤ 4000 ∧ KnB P w K B d N H ∧ TBs Ts H ∧
  ∀ z H', ExN H H' → KnB P w K B d (N + gB k) H' → TBs Ts H' → Fr K (bnS (nnS s)) (best B s) z H' → Q z H'
def spMvs (P : Program) (w : World) (K : PySem.W.Frag) (Ts : List Addr) (k : Nat) : Sp := fun vs H Q _ => ∃ (p : Addr) (u : V) (c d : Addr) (B : List Bx) (s : Seen) (N : Nat), vs = [u, .ref c, .ref d] ∧ Dq K p H u (bxsD B) ∧ H c = some (.tup (s.map optV)) ∧ B.length ≤ 3 ∧ (∀ b ∈ B, BxOk b) ∧ SnOk B s ∧ nnS s ≤ k ∧ k ≤ 2 ∧ N + 1000 * k ≤ 4000 ∧ KnB P w K B d N H ∧ TBs Ts H ∧
  ∀ l zs H', ExN H H' → KnB P w K B d (N + 3 * gM k) H' → TBs Ts H' → H l = none → H' l = some (.lst zs) → DqAll K p H' zs ((mvAll B s).map rowD) → (∀ r ∈ mvAll B s, Bd (bnS (nnS s)) r.2) → Q (.ref l) H'
def spOpb (P : Program) (w : World) (K : PySem.W.Frag) (Ts : List Addr) (k : Nat) : Sp := fun vs H Q _ => ∃ (p : Addr) (u : V) (c d : Addr) (B : List Bx) (s : Seen) (N i : Nat) (b : Bx), vs = [u, .ref c, .int (i : Nat), .ref d] ∧ Dq K p H u (bxsD B) ∧ H c = some (.tup (s.map optV)) ∧ B.length ≤ 3 ∧ (∀ b ∈ B, BxOk b) ∧ SnOk B s ∧ nnS s ≤ k ∧ k ≤ 2 ∧ N + 1000 * k ≤ 4500 ∧ s[i]? = some none ∧ B[i]? = some b ∧ KnB P w K B d N H ∧ TBs Ts H ∧
  ∀ z H', ExN H H' → KnB P w K B d (N + gM k) H' → TBs Ts H' → Fr K (bnS (nnS s)) (mvR (best B) s i b none) z H' → Q z H'
/-- seen[:i] + (k,) + seen[i + 1:] -/
theorem ep_setS {K : PySem.W.Frag} {σ : L2.St} {H : Hp} {j : Nat} {c : Addr} {s : Seen} {ti tk : TE} {i k : Nat} (hj : σ[j]? = some (some (.ref c))) (hc : H c = some (.tup (s.map optV))) (hi : Ev ti σ H (.int (i : Nat))) (hk : Ev tk σ H (.int (k : Nat))) (il : i < s.length) (sl : s.length ≤ 3) :
    EvP (tOp (rCatA K) (tOp (rCatA K) (tSl (rSlT K) (tVar j) tNoPart (tPart ti)) (tTup (tCons tk tNil))) (tSl (rSlT K) (tVar j) (tPart (tOp (rI0 fun i j => .int (i + j)) ti (tC (.int 1)))) tNoPart)) σ H (fun v H' => ∃ b, v = .ref b ∧ H' b = some (.tup ((s.set i (some k)).map optV))) := fun H1 e1 Q kk => by
  have ml : (s.map optV).length = s.length := List.length_map ..
  refine ⟨_, hj, hi H1 e1 _ fun H2 e2 => ⟨_, rfl, c, s.map optV, rfl, SqT.of ((e1.trans e2) _ _ hc), ?_, fun t1 f1 => ?_⟩⟩
  · rw [HT.sIx_none, HT.sIx_nat, ml]
    omega
  have x1 := Ex.new (o := .tup (cutV (s.map optV) none (some (i : Int)))) f1
  have c1 : cutV (s.map optV) none (some (i : Int)) = (s.take i).map optV := by
    unfold cutV
    rw [HT.sIx_none, HT.sIx_nat, ml, List.drop_zero, Nat.sub_zero, Nat.min_eq_left (by omega), List.map_take]
  rw [c1] at x1 ⊢
  generalize hG1 : upd H2 t1 (.tup ((s.take i).map optV)) = G1 at x1
  have h1 : G1 t1 = some (.tup ((s.take i).map optV)) := by rw [← hG1]; exact upd_same
  have E1 := (e1.trans e2).trans x1
  refine hk G1 E1 _ fun H3 e3 => ⟨by show 1 ≤ sizeLine; decide, fun t2 f2 => ?_⟩
  have x2 := Ex.new (o := .tup [V.int (k : Nat)]) f2
  generalize hG2 : upd H3 t2 (.tup [V.int (k : Nat)]) = G2 at x2
  have h2 : G2 t2 = some (.tup [V.int (k : Nat)]) := by rw [← hG2]; exact upd_same
  have h1' := (e3.trans x2) _ _ h1
  have E2 := E1.trans (e3.trans x2)
  have tl : (s.take i).length = i := by rw [List.length_take]; omega
  -- the first two, one behind the other
  have mid : ∀ R : V → Hp → Prop, (∀ t3 G3, Ex G2 G3 → G3 t3 = some (.tup ((s.take i).map optV ++ [V.int (k : Nat)])) → R (.ref t3) G3) → rCatA K (.ref t1) (.ref t2) G2 R := fun R kR => by
    refine ⟨t1, t2, _, _, rfl, rfl, SqT.of h1', SqT.of h2, by rw [List.length_map, tl]; exact Nat.le_of_lt (small1000 (by show i + 1 ≤ 1000; omega)), fun z => ?_, (fun _ z => nomatch z), fun _ _ t3 f3 => ?_⟩
    · refine kR t2 G2 (Ex.refl _) ?_
      rw [z]
      exact h2
    · exact kR t3 _ (Ex.new f3) upd_same
  refine mid _ fun t3 G3 x3 h3 => ?_
  have E3 := E2.trans x3
  refine ⟨_, hj, (ev_add hi ev_c) G3 E3 _ fun H4 e4 => ⟨_, rfl, c, s.map optV, rfl, SqT.of ((E3.trans e4) _ _ hc), ?_, fun t4 f4 => ?_⟩⟩
  · rw [HT.sIx_none, show ((i : Nat) : Int) + 1 = ((i + 1 : Nat) : Int) by omega, HT.sIx_nat, ml]
    omega
  have x4 := Ex.new (o := .tup (cutV (s.map optV) (some ((i : Int) + 1)) none)) f4
  have c2 : cutV (s.map optV) (some ((i : Int) + 1)) none = (s.drop (i + 1)).map optV := by
    unfold cutV
    rw [HT.sIx_none, show ((i : Nat) : Int) + 1 = ((i + 1 : Nat) : Int) by omega, HT.sIx_nat, ml, Nat.min_eq_left (by omega), List.map_drop]
    exact List.take_of_length_le (by rw [List.length_drop, ml]; exact Nat.le_refl _)
  rw [c2] at x4 ⊢
  have h3' := (e4.trans x4) _ _ h3
  have fin : (s.take i).map optV ++ [V.int (k : Nat)] ++ (s.drop (i + 1)).map optV = (s.set i (some k)).map optV := by
    rw [List.set_eq_take_append_cons_drop, if_pos il, List.map_append, List.append_assoc]
    rfl
  refine ⟨t3, t4, _, _, rfl, rfl, SqT.of h3', SqT.of upd_same, ?_, fun z => ?_, fun _ z => ?_, fun _ _ t5 f5 => ?_⟩
  · rw [List.length_append, List.length_map, List.length_map, tl, List.length_drop]
    exact Nat.le_of_lt (small1000 (by show i + 1 + (s.length - (i + 1)) ≤ 1000; omega))
  · simp at z
  · refine kk _ _ ((e2.trans x1).trans ((e3.trans x2).trans (x3.trans (e4.trans x4)))) ⟨t3, rfl, ?_⟩
    have fin' := fin
    rw [z, List.append_nil] at fin'
    rw [← fin']
    exact h3'
  · refine kk _ _ (((e2.trans x1).trans ((e3.trans x2).trans (x3.trans (e4.trans x4)))).trans (Ex.new f5)) ⟨t5, rfl, ?_⟩
    rw [← fin]
    exact upd_same
theorem none_ex {H H' : Hp} {a : Addr} (e : Ex H H') (h : H' a = none) : H a = none := by
  cases hh : H a with
  | none => rfl
  | some o => rw [e _ _ hh] at h; cases h
theorem ExN.mut {H H' : Hp} {a : Addr} {o : HO} (e : ExN H H') (h : H a = none) : ExN H (upd H' a o) := fun b u n m hb => by
  rw [upd_ne (ne_of_none hb h)]
  exact e b u n m hb
theorem walk_enumT {K : PySem.W.Frag} {a : Addr} {xs : List V} : Walk (IteT K a) xs.length (fun H => SqT K H a xs) (YPair (fun i => some (.int (i : Nat))) (fun i => xs[i]?)) := by
  refine ⟨fun i _ hi q => ⟨xs, xs[i], q, by simp [hi]⟩, fun _ q => ⟨xs, q, Nat.le_refl _⟩, fun i H v H' _ q y => ?_⟩
  obtain ⟨T, x, h1, h2, h3, h4⟩ := y
  exact ⟨T, .int (i : Nat), x, h1, h2, h3, rfl, h4 xs q⟩
theorem flat_leave : flatD leaveD = true := rfl
theorem flat_mv (i : Nat) (o : Option Nat) : flatD (mvD i o) = true := by cases o <;> rfl
theorem flat_row {r : PyData × Rat} (h : flatD r.1 = true) : flatD (rowD r) = true := by
  unfold rowD
  simp [flatD, flatDA, h, flat_frd]
theorem mvRows_flat (f : Seen → Rat) (s : Seen) : ∀ (os : Seen) (bs : List Bx) (i : Nat), ∀ r ∈ mvRows f s i os bs, flatD r.1 = true
  | [], _, _, r, h => by simp [mvRows] at h
  | _ :: _, [], _, r, h => by simp [mvRows] at h
  | o :: os, b :: bs, i, r, h => by
    unfold mvRows at h
    rcases List.mem_cons.mp h with rfl | h
    · exact flat_mv i o
    · exact mvRows_flat f s os bs (i + 1) r h
theorem gB_one : ∀ {k : Nat}, k ≤ 1 → gB k ≤ 10
  | 0, _ => by decide
  | 1, _ => by decide
  | n + 2, h => by omega
theorem gM_two {k : Nat} (h : k ≤ 2) : gM k ≤ 30 := by
  cases k with
  | zero => decide
  | succ k =>
    have := gB_one (show k ≤ 1 by omega)
    show 3 * gB k ≤ 30
    omega
theorem small5000 {n : Nat} (h : n ≤ 5000) : n < sizeLine := Nat.lt_of_le_of_lt h (by decide)
theorem bnS_ge (n : Nat) : 4 ≤ bnS n := by
  unfold bnS
  split <;> decide
section
variable {P : Program} {w : World} {K : PySem.W.Frag} {mg : Str → Option Value} {base : Heap}
theorem opn_of (T : Txt K mg) (tb_add_all : GxR.TabB base mg T.c_add_all T.P_add_all) (k : Nat) (ok_be : FnOk P w K mg base CX0 (10 + 3 * k) T.d_best_worth_of.a T.d_best_worth_of.fd ["boxes", "seen", "known"] (spBst P w K (tts T) k)) : FnOk P w K mg base CX0 (10 + 3 * k + 1) T.d_worth_of_opening.a T.d_worth_of_opening.fd ["boxes", "seen", "number", "known"] (spOpb P w K (tts T) (k + 1)) := by
  refine (T.d_worth_of_opening.F.ok (k := 10 + 3 * k) sc_worth_of_opening (fun vs H Q E h => ?_) fun cdv A outer s H vs Q E hr h => ?_)
  · obtain ⟨p, u, c, d, B, s, N, i, b, rfl, _⟩ := h
    rfl
  · obtain ⟨p, u, c, d, B, sn, N, i, b, rfl, hu, hc, l3, ok, so, nk, k2, n5, hi, hb, kn, ht, kk⟩ := h
    refine ⟨_, (pss_cons (ps_asg (pe_ix ix_tup (pv 0) (pv 2) (fun _ _ => rfl)) (pg_tup (by rfl) (pgs_cons (pg_name (i := 4) sc_worth_of_opening.nd rfl (Or.inl rfl)) (pgs_cons (pg_name (i := 5) sc_worth_of_opening.nd rfl (Or.inl rfl)) pgs_nil))))
      (pss_cons (ps_set (i := 6) sc_worth_of_opening.nd rfl (Or.inl rfl) (pe_lst (pa_cons (pe_call (ok_negative T) (hr.mono (by omega)) (by rfl) T.d_negative.g T.d_negative.F.kp T.d_negative.b .nil pass0 (pa_cons (pv 4) pa_nil)) pa_nil)))
      (pss_cons (ps_for PassesOwn.never rfl (pi_enumT (by rfl) T.n_enumerate (pa_cons (pv 5) pa_nil)) (pg_tup (by rfl) (pgs_cons (pg_name (i := 7) sc_worth_of_opening.nd rfl (Or.inl rfl)) (pgs_cons (pg_tup (by rfl) (pgs_cons (pg_name (i := 8) sc_worth_of_opening.nd rfl (Or.inl rfl)) (pgs_cons (pg_name (i := 9) sc_worth_of_opening.nd rfl (Or.inl rfl)) pgs_nil))) pgs_nil))) (pss_cons (ps_set (i := 10) sc_worth_of_opening.nd rfl (Or.inl rfl) (pe_op op_catA (pe_op op_catA (pe_slice sl_tup (pv 1) po_none (po_some (pv 2))) (pe_tup (pa_cons (pv 7) pa_nil))) (pe_slice sl_tup (pv 1) (po_some (pe_op op_add (pv 2) pe_int)) po_none)))
      (pss_one (ps_expr (pe_bm PySem.F.plainAttrs_list PySem.F.slot_list_append PySem.F.type_list_append mt_append (pv 6) (pa_cons (pe_call (ok_multiply T) (hr.mono (by omega)) (by rfl) T.d_multiply.g T.d_multiply.F.kp T.d_multiply.b .nil pass0 (pa_cons (pv 8) (pa_cons (pe_call (ok_be) (hr.mono (by first | decide | omega)) (by rfl) T.d_best_worth_of.g T.d_best_worth_of.F.kp T.d_best_worth_of.b .nil pass0 (pa_cons (pv 0) (pa_cons (pv 10) (pa_cons (pv 3) pa_nil)))) pa_nil))) pa_nil))))))
      (pss_one (ps_ret (pe_call (ok_add_all T tb_add_all) (hr.mono (by omega)) (by rfl) T.d_add_all.g T.d_add_all.F.kp T.d_add_all.b .nil pass0 (pa_cons (pv 6) pa_nil))))))), ?_⟩
    have hu0 : Dq K p H u (.tuple (B.map bxD)) := hu
    obtain ⟨a, xs, rfl, hS, hA⟩ := hu0.seq
    have bl := (List.getElem?_eq_some_iff.mp hb).1
    have bm := List.mem_of_getElem? hb
    have okb := ok b bm
    have il : i < sn.length := by rw [so.l]; exact bl
    obtain ⟨x, hx, qx⟩ := hA.get (j := i) (dj := bxD b) (by rw [List.getElem?_map, hb]; rfl)
    obtain ⟨a1, x1, c1, ys, rfl, hS1, q1, hS2, hA2⟩ := bx_pair qx
    have yl : ys.length = b.2.length := by rw [hA2.len, List.length_map]
    have L1 := okb.l1
    have L3 := okb.l3
    refine n_seq ?_
    refine ⟨_, rfl, _, rfl, a, xs, (i : Int), _, rfl, rfl, hS, atI_nat hx, ?_⟩
    refine ⟨a1, _, rfl, hS1, rfl, _, _, rfl, _, _, rfl, rfl, ?_⟩
    dsimp only
    refine n_seq ?_
    refine ⟨_, rfl, x1, 8, b.1, rfl, q1.frq okb.cb, fun z H1 e1 fz => ⟨by show 1 ≤ sizeLine; decide, fun l fl => ?_⟩⟩
    have hl0 : (upd H1 l (.lst [z])) l = some (.lst [z]) := upd_same
    have e2 := e1.trans (Ex.new (o := .lst [z]) fl)
    have nl : H l = none := none_ex e1 fl
    replace fz := fz.ex (Ex.new (o := .lst [z]) fl)
    generalize upd H1 l (.lst [z]) = G0 at hl0 e2 fz
    dsimp only
    have kn0 := kn.ex e2
    have t0 := ht.ex e2
    have dS : DqAll K p G0 [z] ([-b.1].map frd) := .cons fz.dq .nil
    refine n_seq ?_
    have nb : nnS (sn.set i (some 0)) ≤ k := by
      have := nn_set (k := 0) hi
      omega
    have nnk : ∀ j, nnS (sn.set i (some j)) + 1 = nnS sn := fun j => (nn_set (k := j) hi).symm
    have b4 := bnS_ge (nnS sn - 1)
    have bb : Bd 8 (-b.1) := okb.cb.neg
    refine ⟨_, rfl, c1, ys, rfl, ex_t e2 hS2, ?_⟩
    refine for_it (walk_enumT (K := K) (a := c1) (xs := ys)) (fun j σ G => ∃ (y7 y8 y9 y10 : Option V) (zs : List V), σ = [some (.ref a), some (.ref c), some (.int (i : Nat)), some (.ref d), some x1, some (.ref c1), some (.ref l), y7, y8, y9, y10] ∧ ExN H G ∧ G l = some (.lst zs) ∧ DqAll K p G zs ((-b.1 :: (opnL (fun m => best B (sn.set i (some m))) 0 b.2).take j).map frd) ∧ (∀ q ∈ (-b.1 :: (opnL (fun m => best B (sn.set i (some m))) 0 b.2).take j), Bd (bnS (nnS sn - 1) + 5) q) ∧ KnB P w K B d (N + j * gB k) G ∧ TBs (tts T) G) ⟨none, none, none, none, [z], rfl, Ex.n e2, hl0, dS, (fun q hq => by rw [List.mem_singleton.mp hq]; exact bb.mono (by omega)), by simpa using kn0, t0⟩ (fun j σ G _ h => by
      obtain ⟨_, _, _, _, _, _, e, _⟩ := h
      exact e.st hS2) ?_ ?_
    · rintro j x σ G G' hj ⟨y7, y8, y9, y10, zs, rfl, ex, hz, qs, bd, knG, tG⟩ ⟨T0, nx, y, rfl, hT0, rfl, hn, hy⟩
      cases hn
      obtain ⟨pz, hpz, qp⟩ := (DqAll.xn ex _ _ hA2).atG hy
      have okp := okb.pz pz (List.mem_of_getElem? hpz)
      have jl : j < b.2.length := (List.getElem?_eq_some_iff.mp hpz).1
      have xT := Ex.new (o := .tup [V.int (j : Nat), y]) hT0
      obtain ⟨a3, u1, u2, rfl, hS3, p1, p2⟩ := (Dq.ex xT _ _ qp).pair
      have exG := ex.trans (Ex.n xT)
      have hzT := xT _ _ hz
      have qsT := DqAll.ex xT _ _ qs
      have knT := knG.ex xT
      have tT := tG.ex xT
      have hcT := exG.tp hc
      have huT := Dq.xn exG _ _ hu
      generalize hGT : upd G T0 (.tup [V.int (j : Nat), .ref a3]) = GT at exG hzT qsT knT tT hcT huT hS3 p1 p2
      refine ⟨T0, _, rfl, SqT.of (by rw [← hGT]; exact upd_same), rfl, _, _, rfl, _, _, rfl, a3, _, rfl, hS3, rfl, _, _, rfl, _, _, rfl, rfl, rfl, ?_⟩
      dsimp only
      refine n_seq ?_
      refine s_asgP (ep_setS (K := K) (j := 1) (i := i) (k := j) rfl hcT (ev_var rfl) (ev_var rfl) il (by rw [so.l]; exact l3)) fun v G2 e3 qv => ?_
      obtain ⟨cb, rfl, hcb⟩ := qv
      dsimp only
      have hz2 := e3 _ _ hzT
      have son := sn_set (k := j) so hb jl
      have l1 : zs.length = j + 1 := by
        have := qs.len
        rw [List.length_map, List.length_cons, List.length_take, opnL_len] at this
        omega
      refine ⟨_, rfl, .inl ⟨rfl, _, SqL.of hz2⟩, _, rfl, _, rfl, _, rfl, _, rfl, p, _, cb, d, B, sn.set i (some j), N + j * gB k, rfl, Dq.ex e3 _ _ huT, hcb, l3, ok, son, by have := nnk j; omega, by omega, ?_, knT.ex e3, tT.ex e3, fun zz G4 e4 kn4 t4 fz4 => ?_⟩
      · have : j * gB k ≤ 3 * gB k := Nat.mul_le_mul_right _ (by omega)
        have g2 := gB_one (show k ≤ 1 by omega)
        omega
      · have E4 := (Ex.n e3).trans e4
        have hz4 := E4.l hzT
        have fp1 : Fr K 4 pz.1 u1 G4 := ((Dq.xn E4 _ _ p1).frq okp.qb)
        have nns := nnk j
        refine ⟨u1, zz, 4, _, pz.1, _, rfl, fp1, fz4, by have := bnS_le (nnS (sn.set i (some j))); omega, trivial, fun r G5 e5 fr => ?_⟩
        have hz5 := e5 _ _ hz4
        refine ⟨l, zs, r, rfl, rfl, hz5, small1000 (by omega), ?_⟩
        have up : ExB l G5 (upd G5 l (.lst (zs ++ [r]))) := ExB.upd (ExB.refl l G5)
        have E5 := E4.trans (Ex.n e5)
        refine ⟨_, _, _, _, zs ++ [r], rfl, (exG.trans E5).mut nl, upd_same, ?_, ?_, ?_, (t4.ex e5).lst hz5⟩
        · have tk : (opnL (fun m => best B (sn.set i (some m))) 0 b.2)[j]? = some (pz.1 * best B (sn.set i (some j))) := by
            have := opnL_at (fun m => best B (sn.set i (some m))) b.2 0 j pz hpz
            rwa [Nat.zero_add] at this
          rw [take_snoc tk, ← List.cons_append, List.map_append]
          have fl0 : flatDA ((-b.1 :: (opnL (fun m => best B (sn.set i (some m))) 0 b.2).take j).map frd) = true := flatDA_of fun d hd => by
            obtain ⟨q, _, rfl⟩ := List.mem_map.mp hd
            exact flat_frd q
          exact (DqAll.fl (tupd_l hz5) up _ _ fl0 (DqAll.xn E5 _ _ qsT)).append (.cons (Dq.fl (tupd_l hz5) up _ _ (flat_frd _) fr.dq) .nil)
        · have tk : (opnL (fun m => best B (sn.set i (some m))) 0 b.2)[j]? = some (pz.1 * best B (sn.set i (some j))) := by
            have := opnL_at (fun m => best B (sn.set i (some m))) b.2 0 j pz hpz
            rwa [Nat.zero_add] at this
          intro q hq
          rw [take_snoc tk, ← List.cons_append] at hq
          rcases List.mem_append.mp hq with hq | hq
          · exact bd q hq
          · rw [List.mem_singleton.mp hq]
            exact fr.bd.mono (by rw [show nnS (sn.set i (some j)) = nnS sn - 1 by omega]; omega)
        · rw [show N + (j + 1) * gB k = N + j * gB k + gB k by rw [Nat.succ_mul]; omega]
          exact (kn4.ex e5).lst hz5
    · rintro σ G ⟨y7, y8, y9, y10, zs, rfl, ex, hz, qs, bd, knG, tG⟩
      rw [List.take_of_length_le (by rw [opnL_len, yl]; exact Nat.le_refl _)] at qs bd
      have ol : (-b.1 :: opnL (fun m => best B (sn.set i (some m))) 0 b.2).length = b.2.length + 1 := by rw [List.length_cons, opnL_len]
      have b5 : bnS (nnS sn - 1) ≤ 50 := by
        have h1 : nnS sn - 1 = 0 ∨ nnS sn - 1 = 1 := by omega
        rcases h1 with h1 | h1 <;> rw [h1] <;> decide
      have n1 : 1 ≤ nnS sn := by
        have := nnk 0
        omega
      have n2 : nnS sn ≤ 2 := by omega
      have bl5 : (bnS (nnS sn - 1) + 5) * (b.2.length + 1) ≤ (bnS (nnS sn - 1) + 5) * 4 := Nat.mul_le_mul_left _ (by omega)
      have fin : (bnS (nnS sn - 1) + 5) * 4 + (bnS (nnS sn - 1) + 5) + 4 + 1 ≤ bnS (nnS sn) := by
        have h1 : nnS sn = 1 ∨ nnS sn = 2 := by omega
        rcases h1 with h1 | h1 <;> rw [h1] <;> decide
      dsimp only
      refine ⟨_, rfl, ?_⟩
      refine rd_all (E := E0) hz qs bd (by rw [ol]; omega) (tG _ (by simp)) fun z G2 eB tb2 f => ?_
      rw [ol] at f
      have xb := xt_b (tG _ (by simp)) eB
      refine kk z G2 (ex.trans xb.n) ?_ (tG.b eB tb2) (f.mono (by omega))
      have : b.2.length * gB k ≤ 3 * gB k := Nat.mul_le_mul_right _ L3
      exact (knG.xt xb).mono (by rw [yl]; show _ ≤ N + 3 * gB k; omega)
theorem mvs_of (T : Txt K mg) (tb_add_all : GxR.TabB base mg T.c_add_all T.P_add_all) (k : Nat) (ok_op : FnOk P w K mg base CX0 (8 + 3 * k) T.d_worth_of_opening.a T.d_worth_of_opening.fd ["boxes", "seen", "number", "known"] (spOpb P w K (tts T) k)) : FnOk P w K mg base CX0 (8 + 3 * k + 1) T.d_moves_of.a T.d_moves_of.fd ["boxes", "seen", "known"] (spMvs P w K (tts T) k) := by
  refine (T.d_moves_of.F.ok (k := 8 + 3 * k) sc_moves_of (fun vs H Q E h => ?_) fun cdv A outer s H vs Q E hr h => ?_)
  · obtain ⟨p, u, c, d, B, s, N, rfl, _⟩ := h
    rfl
  · obtain ⟨p, u, c, d, B, sn, N, rfl, hu, hc, l3, ok, so, nk, k2, n5, kn, ht, kk⟩ := h
    refine ⟨_, (pss_cons (ps_set (i := 3) sc_moves_of.nd rfl (Or.inl rfl) (pe_lst (pa_cons (pe_tup (pa_cons (pe_glob (v := .ref T.a_LEAVE) rfl T.c_LEAVE rfl) (pa_cons (pe_glob (v := .ref T.a_ZERO) rfl T.c_ZERO rfl) pa_nil))) pa_nil)))
      (pss_cons (ps_for PassesOwn.never rfl (pi_enumT (by rfl) T.n_enumerate (pa_cons (pv 1) pa_nil)) (pg_tup (by rfl) (pgs_cons (pg_name (i := 4) sc_moves_of.nd rfl (Or.inl rfl)) (pgs_cons (pg_name (i := 5) sc_moves_of.nd rfl (Or.inl rfl)) pgs_nil))) (pss_one (ps_if (pt_cmpR op_isN (pv 5) pe_non (nomark _)) (pss_one (ps_expr (pe_bm PySem.F.plainAttrs_list PySem.F.slot_list_append PySem.F.type_list_append mt_append (pv 3) (pa_cons (pe_tup (pa_cons (pe_tup (pa_cons pe_str (pa_cons (pv 4) pa_nil))) (pa_cons (pe_call (ok_op) (hr.mono (by first | decide | omega)) (by rfl) T.d_worth_of_opening.g T.d_worth_of_opening.F.kp T.d_worth_of_opening.b .nil pass0 (pa_cons (pv 0) (pa_cons (pv 1) (pa_cons (pv 4) (pa_cons (pv 2) pa_nil))))) pa_nil))) pa_nil)))) (pss_one (ps_expr (pe_bm PySem.F.plainAttrs_list PySem.F.slot_list_append PySem.F.type_list_append mt_append (pv 3) (pa_cons (pe_tup (pa_cons (pe_tup (pa_cons pe_str (pa_cons (pv 4) pa_nil))) (pa_cons (pe_ix ix_tup (pe_ix ix_tup (pe_ix ix_tup (pe_ix ix_tup (pv 0) (pv 4) (fun _ _ => rfl)) pe_int (fun _ _ => rfl)) (pv 5) (fun _ _ => rfl)) pe_int (fun _ _ => rfl)) pa_nil))) pa_nil)))))))
      (pss_one (ps_ret (pv 3))))), ?_⟩
    have hu0 : Dq K p H u (.tuple (B.map bxD)) := hu
    refine n_seq ?_
    refine ⟨by show 2 ≤ sizeLine; decide, fun t0 ft0 => ⟨by show 1 ≤ sizeLine; decide, fun l fl => ?_⟩⟩
    have x0 := Ex.new (o := .tup [V.ref T.a_LEAVE, V.ref T.a_ZERO]) ft0
    have x1 := Ex.new (o := .lst [V.ref t0]) fl
    have e1 := x0.trans x1
    have nl : H l = none := none_ex x0 fl
    have q0 : Dq K p (upd (upd H t0 (.tup [V.ref T.a_LEAVE, V.ref T.a_ZERO])) l (.lst [V.ref t0])) (.ref t0) (rowD (leaveD, 0)) := .tup (SqT.of (x1 _ _ upd_same)) (.cons (.tup (.inr T.k_LEAVE) (.cons (.str _) .nil)) (.cons (.tup (.inr T.k_ZERO) (.cons (.int 0) (.cons (.int 1) .nil))) .nil))
    have hl0 : (upd (upd H t0 (.tup [V.ref T.a_LEAVE, V.ref T.a_ZERO])) l (.lst [V.ref t0])) l = some (.lst [V.ref t0]) := upd_same
    generalize upd (upd H t0 (.tup [V.ref T.a_LEAVE, V.ref T.a_ZERO])) l (.lst [V.ref t0]) = G0 at e1 hl0 q0
    clear x0 x1 ft0 fl
    dsimp only
    refine n_seq ?_
    refine ⟨_, rfl, c, _, rfl, SqT.of (e1 _ _ hc), ?_⟩
    have sl : (sn.map optV).length = sn.length := List.length_map ..
    refine for_it (walk_enumT (K := K) (a := c) (xs := sn.map optV)) (fun j σ G => ∃ (y4 y5 : Option V) (zs : List V), σ = [some u, some (.ref c), some (.ref d), some (.ref l), y4, y5] ∧ ExN H G ∧ G l = some (.lst zs) ∧ DqAll K p G zs (((leaveD, 0) :: (mvRows (best B) sn 0 sn B).take j).map rowD) ∧ (∀ r ∈ ((leaveD, 0) :: (mvRows (best B) sn 0 sn B).take j), Bd (bnS (nnS sn)) r.2) ∧ KnB P w K B d (N + j * (gM k)) G ∧ TBs (tts T) G) ⟨none, none, [V.ref t0], rfl, Ex.n e1, hl0, .cons q0 .nil, (fun r hr => by rw [List.mem_singleton.mp hr]; exact Bd.mono (b := 1) (by unfold bnS; split <;> decide) ⟨by decide, by decide⟩), by simpa using kn.ex e1, ht.ex e1⟩ (fun j σ G _ h => by
      obtain ⟨_, _, _, _, e, _⟩ := h
      exact SqT.of (e.tp hc)) ?_ ?_
    · rintro j x σ G G' hj ⟨y4, y5, zs, rfl, ex, hz, qs, bd, knG, tG⟩ ⟨T0, nx, y, rfl, hT0, rfl, hn, hy⟩
      cases hn
      rw [sl] at hj
      obtain ⟨o, ho⟩ : ∃ o, sn[j]? = some o := ⟨_, List.getElem?_eq_getElem hj⟩
      replace hy : (sn.map optV)[j]? = some y := hy
      rw [List.getElem?_map, ho] at hy
      cases hy
      obtain ⟨b, hb⟩ : ∃ b, B[j]? = some b := ⟨_, List.getElem?_eq_getElem (by rw [← so.l]; exact hj)⟩
      have xT := Ex.new (o := .tup [V.int (j : Nat), optV o]) hT0
      have exG := ex.trans (Ex.n xT)
      have hzT := xT _ _ hz
      have qsT := DqAll.ex xT _ _ qs
      have knT := knG.ex xT
      have tT := tG.ex xT
      have hcT := exG.tp hc
      have huT := Dq.xn exG _ _ hu
      have l1 : zs.length ≤ 4 := by
        rw [qs.len, List.length_map, List.length_cons, List.length_take]
        have := so.l
        omega
      have hat := mvRows_at (best B) sn sn B 0 j o b ho hb
      rw [Nat.zero_add] at hat
      -- one more row
      have put : ∀ (r : V) (G2 : Hp), ExN H G2 → G2 l = some (.lst zs) → DqAll K p G2 zs (((leaveD, 0) :: (mvRows (best B) sn 0 sn B).take j).map rowD) → Dq K p G2 r (rowD (mvD j o, mvR (best B) sn j b o)) → flatD (mvD j o) = true → DqAll K p (upd G2 l (.lst (zs ++ [r]))) (zs ++ [r]) (((leaveD, 0) :: (mvRows (best B) sn 0 sn B).take (j + 1)).map rowD) := fun r G2 _ h2 qs2 qr fr => by
        rw [take_snoc hat, ← List.cons_append, List.map_append]
        have up : ExB l G2 (upd G2 l (.lst (zs ++ [r]))) := ExB.upd (ExB.refl l G2)
        have fl0 : flatDA (((leaveD, 0) :: (mvRows (best B) sn 0 sn B).take j).map rowD) = true := flatDA_of fun d hd => by
          obtain ⟨q, hq, rfl⟩ := List.mem_map.mp hd
          exact flat_row (by
            rcases List.mem_cons.mp hq with rfl | hq
            · exact flat_leave
            · exact mvRows_flat _ _ _ _ _ _ (List.mem_of_mem_take hq))
        exact (DqAll.fl (tupd_l h2) up _ _ fl0 qs2).append (.cons (Dq.fl (tupd_l h2) up _ _ (flat_row fr) qr) .nil)
      generalize hGT : upd G T0 (.tup [V.int (j : Nat), optV o]) = GT at exG hzT qsT knT tT hcT huT
      refine ⟨T0, _, rfl, SqT.of (by rw [← hGT]; exact upd_same), rfl, _, _, rfl, _, _, rfl, rfl, ?_⟩
      dsimp only
      cases o with
      | none =>
        refine ⟨_, rfl, rfl, _, rfl, ?_⟩
        refine iteT ?_
        refine ⟨_, rfl, .inl ⟨rfl, _, SqL.of hzT⟩, _, rfl, by show 2 ≤ sizeLine; decide, fun t1 ft1 => ?_⟩
        have x1 := Ex.new (o := .tup [V.str "open", V.int (j : Nat)]) ft1
        have qm : Dq K p (upd GT t1 (.tup [V.str "open", V.int (j : Nat)])) (.ref t1) (mvD j none) := .tup (SqT.of upd_same) (.cons (.str _) (.cons (.int _) .nil))
        have n1 : 1 ≤ nnS sn := by
          have := nn_set (k := 0) ho
          omega
        have g10 : j * (gM k) ≤ 3 * (gM k) := Nat.mul_le_mul_right _ (by have := so.l; omega)
        have g11 := gM_two k2
        refine ⟨_, rfl, _, rfl, _, rfl, _, rfl, p, u, c, d, B, sn, N + j * (gM k), j, b, rfl, Dq.ex x1 _ _ huT, x1 _ _ hcT, l3, ok, so, nk, k2, by omega, ho, hb, knT.ex x1, tT.ex x1, fun z G2 e2 kn2 t2 fz => ⟨by show 2 ≤ sizeLine; decide, fun t3 ft3 => ?_⟩⟩
        have x3 := Ex.new (o := .tup [V.ref t1, z]) ft3
        have E3 := ((Ex.n x1).trans e2).trans (Ex.n x3)
        have hz3 := E3.l hzT
        have qr : Dq K p (upd G2 t3 (.tup [V.ref t1, z])) (.ref t3) (rowD (mvD j none, mvR (best B) sn j b none)) := .tup (SqT.of upd_same) (.cons (Dq.xn (e2.trans (Ex.n x3)) _ _ qm) (.cons (Dq.ex x3 _ _ fz.dq) .nil))
        refine ⟨l, zs, .ref t3, rfl, rfl, hz3, small1000 (by omega), ?_⟩
        refine ⟨_, _, zs ++ [.ref t3], rfl, (exG.trans E3).mut nl, upd_same, put _ _ (exG.trans E3) hz3 (DqAll.xn E3 _ _ qsT) qr (flat_mv j none), fun r hr => ?_, ?_, (t2.ex x3).lst hz3⟩
        · rw [take_snoc hat, ← List.cons_append] at hr
          rcases List.mem_append.mp hr with hr | hr
          · exact bd r hr
          · rw [List.mem_singleton.mp hr]
            exact fz.bd
        · rw [show N + (j + 1) * (gM k) = N + j * (gM k) + gM k by rw [Nat.succ_mul]; omega]
          exact (kn2.ex x3).lst hz3
      | some n =>
        refine ⟨_, rfl, rfl, _, rfl, ?_⟩
        refine iteF ?_
        have huT0 : Dq K p GT u (.tuple (B.map bxD)) := huT
        obtain ⟨a, xs, rfl, hS, hA⟩ := huT0.seq
        obtain ⟨x, hx, qx⟩ := hA.get (j := j) (dj := bxD b) (by rw [List.getElem?_map, hb]; rfl)
        obtain ⟨a1, x1, c1, ys, rfl, hS1, q1, hS2, hA2⟩ := bx_pair qx
        have nl3 := so.lt j n b ho hb
        obtain ⟨pz, hpz⟩ : ∃ pz, b.2[n]? = some pz := ⟨_, List.getElem?_eq_getElem nl3⟩
        obtain ⟨y, hy, qy⟩ := hA2.get (j := n) (dj := pzD pz) (by rw [List.getElem?_map, hpz]; rfl)
        obtain ⟨a2, u1, u2, rfl, hS3, p1, p2⟩ := Dq.pair qy
        refine ⟨_, rfl, .inl ⟨rfl, _, SqL.of hzT⟩, _, rfl, by show 2 ≤ sizeLine; decide, fun t1 ft1 => ?_⟩
        have x1' := Ex.new (o := .tup [V.str "take", V.int (j : Nat)]) ft1
        have qm : Dq K p (upd GT t1 (.tup [V.str "take", V.int (j : Nat)])) (.ref t1) (mvD j (some n)) := .tup (SqT.of upd_same) (.cons (.str _) (.cons (.int _) .nil))
        refine ⟨_, rfl, _, rfl, a, xs, (j : Int), _, rfl, rfl, ex_t x1' hS, atI_nat hx, a1, _, (1 : Nat), .ref c1, rfl, rfl, ex_t x1' hS1, atI_nat rfl, _, rfl, c1, ys, (n : Int), _, rfl, rfl, ex_t x1' hS2, atI_nat hy, a2, _, (1 : Nat), u2, rfl, rfl, ex_t x1' hS3, atI_nat rfl, by show 2 ≤ sizeLine; decide, fun t3 ft3 => ?_⟩
        have x3 := Ex.new (o := .tup [V.ref t1, u2]) ft3
        have E3 := Ex.n (x1'.trans x3)
        have hz3 := E3.l hzT
        have ev : mvR (best B) sn j b (some n) = pz.2 := val_at hpz
        have okp := (ok b (List.mem_of_getElem? hb)).pz pz (List.mem_of_getElem? hpz)
        have qr : Dq K p (upd (upd GT t1 (.tup [V.str "take", V.int (j : Nat)])) t3 (.tup [V.ref t1, u2])) (.ref t3) (rowD (mvD j (some n), mvR (best B) sn j b (some n))) := by
          rw [ev]
          exact .tup (SqT.of upd_same) (.cons (Dq.ex x3 _ _ qm) (.cons (Dq.ex (x1'.trans x3) _ _ p2) .nil))
        refine ⟨l, zs, .ref t3, rfl, rfl, hz3, small1000 (by omega), ?_⟩
        refine ⟨_, _, zs ++ [.ref t3], rfl, (exG.trans E3).mut nl, upd_same, put _ _ (exG.trans E3) hz3 (DqAll.xn E3 _ _ qsT) qr (flat_mv j (some n)), fun r hr => ?_, ?_, (tT.ex (x1'.trans x3)).lst hz3⟩
        · rw [take_snoc hat, ← List.cons_append] at hr
          rcases List.mem_append.mp hr with hr | hr
          · exact bd r hr
          · rw [List.mem_singleton.mp hr]
            show Bd _ (mvR (best B) sn j b (some n))
            rw [ev]
            exact okp.vb.mono (by unfold bnS; split <;> decide)
        · exact ((knT.ex (x1'.trans x3)).lst hz3).mono (Nat.add_le_add_left (Nat.mul_le_mul_right _ (Nat.le_succ j)) N)
    · rintro σ G ⟨y4, y5, zs, rfl, ex, hz, qs, bd, knG, tG⟩
      have rl := mvRows_len (best B) sn sn B 0 so.l
      rw [List.take_of_length_le (by rw [rl, sl]; exact Nat.le_refl _)] at qs bd
      dsimp only
      have : sn.length * (gM k) ≤ 3 * (gM k) := Nat.mul_le_mul_right _ (by rw [so.l]; exact l3)
      exact ⟨_, rfl, kk l zs G ex (knG.mono (by rw [sl]; omega)) tG nl hz qs bd⟩
theorem bst_of (T : Txt K mg) (tb_add_all : GxR.TabB base mg T.c_add_all T.P_add_all) (k : Nat) (ok_mv : FnOk P w K mg base CX0 (9 + 3 * k) T.d_moves_of.a T.d_moves_of.fd ["boxes", "seen", "known"] (spMvs P w K (tts T) k)) : FnOk P w K mg base CX0 (9 + 3 * k + 1) T.d_best_worth_of.a T.d_best_worth_of.fd ["boxes", "seen", "known"] (spBst P w K (tts T) k) := by
  refine (T.d_best_worth_of.F.ok (k := 9 + 3 * k) sc_best_worth_of (fun vs H Q E h => ?_) fun cdv A outer s H vs Q E hr h => ?_)
  · obtain ⟨p, u, c, d, B, s, N, rfl, _⟩ := h
    rfl
  · obtain ⟨p, u, c, d, B, sn, N, rfl, hu, hc, l3, ok, so, nk, k2, n5, kn, ht, kk⟩ := h
    have hu9 : (A.deeper (envOfC (Str.ofString "best_worth_of") (defScope s_best_worth_of) s.heap.objs.size T.d_best_worth_of.a cdv)).units + 9 < cLine := by have := hr.un; omega
    refine ⟨_, (pss_cons (ps_if (pt_cmp (pc_nnotin hu9 (pv 1) (pv 2))) (pss_one (ps_asg (pe_call (ok_greatest T) (hr.mono (by omega)) (by rfl) T.d_greatest.g T.d_greatest.F.kp T.d_greatest.b .nil pass0 (pa_cons (pe_lc (own := [("_", 3), ("worth", 4)]) (g := gTup K 2 (gCons (gName 3) (gCons (gName 4) gNil))) (tt := tYes) rfl sc_best_worth_of.nd (pi_list (pe_call (ok_mv) (hr.mono (by first | decide | omega)) (by rfl) T.d_moves_of.g T.d_moves_of.F.kp T.d_moves_of.b .nil pass0 (pa_cons (pv 0) (pa_cons (pv 1) (pa_cons (pv 2) pa_nil))))) (blkOk_by (own := [("_", 3), ("worth", 4)]) (N := n_best_worth_of) (sc := defScope s_best_worth_of) (by decide +kernel)) (fun _ _ _ _ _ => (pg_tup rfl (pgs_cons (pg_name (i := 3) sc_best_worth_of.nd rfl (Or.inl rfl)) (pgs_cons (pg_name (i := 4) sc_best_worth_of.nd rfl (Or.inl rfl)) pgs_nil)))) (fun _ _ _ _ _ => pts_nil) (fun _ _ _ _ _ => (pv 4))) pa_nil)) (pg_sub (pv 2) (pv 1) (set_nest hu9)))) pss_nil)
      (pss_one (ps_ret (pe_nget hu9 (pv 2) (pv 1) (fun _ _ => rfl))))), ?_⟩
    obtain ⟨kvs, dn, kl, kv⟩ := kn
    have ky := kyN_seen hc
    refine n_seq ?_
    refine ⟨_, rfl, _, rfl, d, c, kvs, kyB sn, rfl, rfl, dn, ky, ?_⟩
    cases hv : valV kvs (kyB sn) with
    | some v =>
      refine ⟨_, rfl, ?_⟩
      refine iteF ?_
      refine n_next ?_
      dsimp only
      exact ⟨_, rfl, _, rfl, d, c, kvs, kyB sn, v, rfl, rfl, dn, ky, hv, kk v H (ExN.refl H) ⟨kvs, dn, by omega, kv⟩ ht (kv sn v hv so)⟩
    | none =>
      refine ⟨_, rfl, ?_⟩
      refine iteT ?_
      refine ⟨_, rfl, _, rfl, _, rfl, p, u, c, d, B, sn, N, rfl, hu, hc, l3, ok, so, nk, k2, n5, ⟨kvs, dn, kl, kv⟩, ht, fun l zs G e1 kn1 t1 nl hz qs bd => ⟨l, rfl, ⟨_, SqL.of hz⟩, fun D nD => ?_⟩⟩
      refine lc_data (rows := mvAll B sn) (rd := rowD) (out := fun r => frd r.2) (c := fun _ => true) walk_list (fun H e => SqL.of (e _ _ hz)) nD qs (fun x _ => flat_frd _) (by
        unfold mvAll
        rw [List.length_cons, mvRows_len _ _ _ _ _ so.l, so.l]
        omega) (fun x v G1 R S hx ex q y n => ?_) fun ws G1 ex hw qw => ?_
      · obtain ⟨a2, u1, u2, rfl, hS3, q1, q2⟩ := q.pair
        refine ⟨a2, _, rfl, hS3, rfl, _, _, rfl, _, _, rfl, rfl, rfl, ?_⟩
        refine yes_of ?_
        rw [if_pos rfl]
        exact ⟨_, rfl, y rfl _ _ (Ex.refl _) q2⟩
      have hf : List.filter (fun _ => true) (mvAll B sn) = mvAll B sn := List.filter_eq_self.mpr fun _ _ => rfl
      rw [hf, show (mvAll B sn).map (fun r => frd r.2) = ((mvAll B sn).map fun r => r.2).map frd by rw [List.map_map]; rfl] at qw
      have exG := e1.trans (Ex.n ex)
      have qd : ∀ q ∈ (mvAll B sn).map (fun r => r.2), Bd (bnS (nnS sn)) q := fun q hq => by
        obtain ⟨r, hr, rfl⟩ := List.mem_map.mp hq
        exact bd r hr
      refine ⟨p, D, ws, _, bnS (nnS sn), rfl, hw, qw, qd, by have := bnS_le (nnS sn); omega, (fun z => nomatch z), fun z G2 e2 fz => ?_⟩
      rw [show ((mvAll B sn).map fun r => r.2).headD 0 = 0 from rfl, mvAll_max] at fz
      have kn2 := (kn1.ex ex).ex e2
      obtain ⟨kvs1, dn1, kl1, kv1⟩ := kn2
      have E2 := exG.trans (Ex.n e2)
      have t2 := (t1.ex ex).ex e2
      have g0 := gB_gM k
      have g1 := gM_two k2
      refine ⟨_, rfl, _, rfl, d, c, kvs1, kyB sn, rfl, rfl, dn1, kyN_seen (E2.tp hc), Nat.lt_of_le_of_lt kl1 (small5000 (by omega)), fun φ dnφ => ?_⟩
      obtain ⟨xs1, hd1, _⟩ := id dn1
      have xn := xn_ext (ψ := φ) hd1
      have E3 := E2.trans xn
      have fz3 := fz.xn xn
      have kv3 : ∀ s' v', valV (putK kvs1 (kyB sn) z) (kyB s') = some v' → SnOk B s' → Fr K (bnS (nnS s')) (best B s') v' (upd G2 d (.ext φ)) := fun s' v' hv' ok' => by
        rw [valV_put] at hv'
        by_cases c : kyB s' = kyB sn
        · have := kyB_inj c
          subst this
          rw [if_pos rfl] at hv'
          cases hv'
          exact fz3
        · rw [if_neg c] at hv'
          exact (kv1 s' v' hv' ok').xn xn
      have vz : valV (putK kvs1 (kyB sn) z) (kyB sn) = some z := by rw [valV_put, if_pos rfl]
      dsimp only
      exact ⟨_, rfl, _, rfl, d, c, _, kyB sn, z, rfl, rfl, dnφ, kyN_seen (E3.tp hc), vz, kk z _ E3 ⟨_, dnφ, by have := length_putK kvs1 (kyB sn) z; omega, kv3⟩ (TBs.ext hd1 t2) fz3⟩
theorem ok_open0 (T : Txt K mg) : FnOk P w K mg base CX0 8 T.d_worth_of_opening.a T.d_worth_of_opening.fd ["boxes", "seen", "number", "known"] (spOpb P w K (tts T) 0) := by
  have no : ∀ vs H Q E, ¬ spOpb P w K (tts T) 0 vs H Q E := fun vs H Q E h => by
    obtain ⟨p, u, c, d, B, sn, N, i, b, _, _, _, _, _, _, nk, _, _, hi, _⟩ := h
    have := nn_set (k := 0) hi
    omega
  refine (T.d_worth_of_opening.F.ok (k := 7) sc_worth_of_opening (fun vs H Q E h => absurd h (no _ _ _ _)) fun cdv A outer s H vs Q E hr h => absurd h (no _ _ _ _))
theorem FnOk.lv {f : Addr} {fd : FuncData} {ps : List Str} {sp : Sp} {k m : Nat} (h : FnOk P w K mg base CX0 k f fd ps sp) (e : k = m) : FnOk P w K mg base CX0 m f fd ps sp := e ▸ h
/-- best_worth_of for states with k boxes shut at most -/
theorem ok_best_worth_of (T : Txt K mg) (tb_add_all : GxR.TabB base mg T.c_add_all T.P_add_all) : ∀ k, FnOk P w K mg base CX0 (10 + 3 * k) T.d_best_worth_of.a T.d_best_worth_of.fd ["boxes", "seen", "known"] (spBst P w K (tts T) k)
  | 0 => bst_of T tb_add_all 0 (mvs_of T tb_add_all 0 (ok_open0 T))
  | k + 1 => FnOk.lv (bst_of T tb_add_all (k + 1) (FnOk.lv (mvs_of T tb_add_all (k + 1) (FnOk.lv (opn_of T tb_add_all k (ok_best_worth_of T tb_add_all k)) (by omega))) (by omega))) (by omega)
theorem ok_moves_of (T : Txt K mg) (tb_add_all : GxR.TabB base mg T.c_add_all T.P_add_all) : ∀ k, FnOk P w K mg base CX0 (9 + 3 * k) T.d_moves_of.a T.d_moves_of.fd ["boxes", "seen", "known"] (spMvs P w K (tts T) k)
  | 0 => mvs_of T tb_add_all 0 (ok_open0 T)
  | k + 1 => FnOk.lv (mvs_of T tb_add_all (k + 1) (FnOk.lv (opn_of T tb_add_all k (ok_best_worth_of T tb_add_all k)) (by omega))) (by omega)
end
/-! ### reserves, the worth of boxes, best moves -/
theorem sum_above (t : Rat) : ∀ ps : List (Rat × Rat), ((ps.filter fun x => !decide (x.2 < t)).map fun x => x.1 * x.2).sum = sumA ps t ∧ ((ps.filter fun x => !decide (x.2 < t)).map fun x => x.1).sum = cntA ps t
  | [] => ⟨rfl, rfl⟩
  | x :: ps => by
    obtain ⟨h1, h2⟩ := sum_above t ps
    unfold sumA at h1 ⊢
    unfold cntA at h2 ⊢
    rw [mean_cons, mean_cons]
    by_cases c : x.2 < t
    · rw [List.filter_cons_of_neg (by simp [c]), if_pos c, if_pos c, h1, h2]
      constructor <;> grind
    · rw [List.filter_cons_of_pos (by simp [c]), if_neg c, if_neg c, List.map_cons, List.sum_cons, List.map_cons, List.sum_cons, h1, h2]
      constructor <;> grind
theorem maxQ_spec : ∀ (qs : List Rat) (m : Rat), (maxQ m qs = m ∨ maxQ m qs ∈ qs) ∧ m ≤ maxQ m qs ∧ ∀ q ∈ qs, q ≤ maxQ m qs
  | [], m => ⟨.inl rfl, Rat.le_refl, fun q h => by cases h⟩
  | x :: qs, m => by
    obtain ⟨h1, h2, h3⟩ := maxQ_spec qs (if m < x then x else m)
    show (maxQ (if m < x then x else m) qs = m ∨ maxQ (if m < x then x else m) qs ∈ x :: qs) ∧ _
    refine ⟨?_, Rat.le_trans (by split <;> grind) h2, fun q hq => ?_⟩
    · rcases h1 with h1 | h1
      · by_cases c : m < x
        · rw [if_pos c] at h1 ⊢
          rw [h1]
          exact .inr List.mem_cons_self
        · rw [if_neg c] at h1 ⊢
          exact .inl h1
      · exact .inr (List.mem_cons_of_mem _ h1)
    · rcases List.mem_cons.mp hq with rfl | hq
      · exact Rat.le_trans (by split <;> grind) h2
      · exact h3 q hq
theorem res_of {b : Bx} (h : b.2 ≠ []) : IsRes b (maxQ ((b.2.map fun x => shareR b x.2).headD 0) (b.2.map fun x => shareR b x.2)) := by
  obtain ⟨x, xs, e⟩ : ∃ x xs, b.2 = x :: xs := by
    cases hb : b.2 with
    | nil => exact absurd hb h
    | cons x xs => exact ⟨x, xs, rfl⟩
  obtain ⟨h1, h2, h3⟩ := maxQ_spec (b.2.map fun x => shareR b x.2) ((b.2.map fun x => shareR b x.2).headD 0)
  have hd : (b.2.map fun x => shareR b x.2).headD 0 = shareR b x.2 := by rw [e]; rfl
  constructor
  · intro y hy
    exact h3 _ (List.mem_map.mpr ⟨y, hy, rfl⟩)
  · rcases h1 with h1 | h1
    · exact ⟨x, by rw [e]; exact List.mem_cons_self, by rw [h1, hd]⟩
    · obtain ⟨y, hy, ey⟩ := List.mem_map.mp h1
      exact ⟨y, hy, ey⟩
theorem BxOk.p {b : Bx} (h : BxOk b) : BxQ b where
  c0 := h.c0
  ne := fun e => by
    have := h.l1
    rw [e] at this
    cases this
  p0 := fun x hx => (h.pz x hx).q0
  v0 := fun x hx => (h.pz x hx).v0
  one := h.one
def spRes (K : PySem.W.Frag) (Ts : List Addr) : Sp := fun vs H Q _ => ∃ (p : Addr) (v : V) (b : Bx), vs = [v] ∧ Dq K p H v (bxD b) ∧ BxOk b ∧ TBs Ts H ∧ ∀ z q H', ExT H H' → TBs Ts H' → Fr K 70 q z H' → IsRes b q → Q z H'
def noS (B : List Bx) : Seen := B.map fun _ => none
theorem nn_no : ∀ B : List Bx, nnS (noS B) = B.length
  | [] => rfl
  | _ :: B => by
    show nnS (noS B) + 1 = B.length + 1
    rw [nn_no B]
theorem sn_no (B : List Bx) : SnOk B (noS B) := ⟨List.length_map .., fun i j b h => by
  unfold noS at h
  rw [List.getElem?_map] at h
  cases hb : B[i]? with
  | none => rw [hb] at h; cases h
  | some b => rw [hb] at h; cases h⟩
def spBxW (K : PySem.W.Frag) (Ts : List Addr) : Sp := fun vs H Q _ => ∃ (p : Addr) (v : V) (B : List Bx), vs = [v] ∧ Dq K p H v (bxsD B) ∧ 1 ≤ B.length ∧ B.length ≤ 2 ∧ (∀ b ∈ B, BxOk b) ∧ TBs Ts H ∧ ∀ z H', ExN H H' → TBs Ts H' → Fr K 280 (best B (noS B)) z H' → Q z H'
/-- the best moves of a state -/
def bstD (B : List Bx) (s : Seen) : List PyData := ((mvAll B s).filter fun r => decide (r.2 = best B s)).map fun r => r.1
def spBmv (K : PySem.W.Frag) (Ts : List Addr) : Sp := fun vs H Q _ => ∃ (p : Addr) (u : V) (c : Addr) (B : List Bx) (s : Seen), vs = [u, .ref c] ∧ Dq K p H u (bxsD B) ∧ H c = some (.tup (s.map optV)) ∧ 1 ≤ B.length ∧ B.length ≤ 2 ∧ (∀ b ∈ B, BxOk b) ∧ SnOk B s ∧ TBs Ts H ∧ ∀ l ys H', ExN H H' → TBs Ts H' → H' l = some (.lst ys) → DqAll K p H' ys (So.srt (bstD B s)) → Q (.ref l) H'
theorem nn_le : ∀ s : Seen, nnS s ≤ s.length
  | [] => Nat.le_refl _
  | none :: s => Nat.succ_le_succ (nn_le s)
  | some _ :: s => Nat.le_succ_of_le (nn_le s)
theorem mvAll_flat {B : List Bx} {s : Seen} (r : PyData × Rat) (h : r ∈ mvAll B s) : flatD r.1 = true := by
  rcases List.mem_cons.mp h with rfl | h
  · exact flat_leave
  · exact mvRows_flat _ _ _ _ _ r h
theorem mvRows_mem (f : Seen → Rat) (s : Seen) : ∀ (os : Seen) (bs : List Bx) (i : Nat), ∀ r ∈ mvRows f s i os bs, ∃ j o, r.1 = mvD j o
  | [], _, _, r, h => by simp [mvRows] at h
  | _ :: _, [], _, r, h => by simp [mvRows] at h
  | o :: os, b :: bs, i, r, h => by
    unfold mvRows at h
    rcases List.mem_cons.mp h with rfl | h
    · exact ⟨i, o, rfl⟩
    · exact mvRows_mem f s os bs (i + 1) r h
theorem bst_mem {B : List Bx} {s : Seen} {d : PyData} (h : d ∈ bstD B s) : d = leaveD ∨ ∃ j o, d = mvD j o := by
  unfold bstD at h
  obtain ⟨r, hr, rfl⟩ := List.mem_map.mp h
  rcases List.mem_cons.mp (List.mem_filter.mp hr).1 with rfl | hr
  · exact .inl rfl
  · exact .inr (mvRows_mem _ _ _ _ _ r hr)
theorem cmp_mv (i j : Nat) (o u : Option Nat) : So.cmp (mvD i o) (mvD j u) = true := by
  cases o <;> cases u <;> simp [mvD, So.cmp, So.cmpA]
theorem rw_moves (B : List Bx) (s : Seen) : So.Rw 60 (bstD B s) where
  td := So.tdA_of fun d hd => by
    rcases bst_mem hd with rfl | ⟨j, o, rfl⟩
    · rfl
    · cases o <;> rfl
  lay := fun d hd => by
    rcases bst_mem hd with rfl | ⟨j, o, rfl⟩
    · decide +kernel
    · cases o <;> simp [mvD, PyData.canLay0, PyData.canLayAll0] <;> decide +kernel
  deep := fun d hd => by
    rcases bst_mem hd with rfl | ⟨j, o, rfl⟩
    · decide +kernel
    · cases o <;> simp [mvD, PyData.depth, PyData.depthAll]
  cm := fun d hd e he => by
    rcases bst_mem hd with rfl | ⟨j, o, rfl⟩
    · rcases bst_mem he with rfl | ⟨j', o', rfl⟩
      · decide +kernel
      · cases o' <;> simp [leaveD, mvD, So.cmp, So.cmpA]
    · rcases bst_mem he with rfl | ⟨j', o', rfl⟩
      · cases o <;> simp [leaveD, mvD, So.cmp, So.cmpA]
      · exact cmp_mv j j' o o'
  hd := fun d hd => by
    rcases bst_mem hd with rfl | ⟨j, o, rfl⟩
    · exact ⟨_, _, rfl⟩
    · cases o <;> exact ⟨_, _, rfl⟩
section
variable {P : Program} {w : World} {K : PySem.W.Frag} {mg : Str → Option Value} {base : Heap}
theorem ok_reserve (T : Txt K mg) (tb_add_all : GxR.TabB base mg T.c_add_all T.P_add_all) (tb_are_prizes : GxR.TabB base mg T.c_are_prizes T.P_are_prizes) : FnOk P w K mg base CX0 9 T.d_reserve.a T.d_reserve.fd ["box"] (spRes K (tts T)) := by
  refine T.d_reserve.F.ok sc_reserve (fun vs H Q E h => ?_) (fun cdv A outer s H vs Q E hr h => ?_)
  · obtain ⟨p, v, b, rfl, _⟩ := h
    rfl
  · obtain ⟨p, v, b, rfl, hd, ok, ht, kk⟩ := h
    refine ⟨_, (pss_cons (ps_expr (pe_call (ok_require_box T tb_add_all tb_are_prizes) (hr.mono (by decide)) (by rfl) T.d_require_box.g T.d_require_box.F.kp T.d_require_box.b .nil pass0 (pa_cons (pv 0) pa_nil)))
      (pss_cons (ps_asg (pv 0) (pg_tup (by rfl) (pgs_cons (pg_name (i := 1) sc_reserve.nd rfl (Or.inl rfl)) (pgs_cons (pg_name (i := 2) sc_reserve.nd rfl (Or.inl rfl)) pgs_nil))))
      (pss_cons (ps_set (i := 3) sc_reserve.nd rfl (Or.inl rfl) (pe_lst pa_nil))
      (pss_cons (ps_for PassesOwn.never rfl (pi_tup (pv 2)) (pg_tup (by rfl) (pgs_cons (pg_name (i := 4) sc_reserve.nd rfl (Or.inl rfl)) (pgs_cons (pg_name (i := 5) sc_reserve.nd rfl (Or.inr rfl)) pgs_nil))) (pss_cons (ps_setLc (i := 6) (own := [("chance", 8), ("value", 9)]) (g := gTup K 2 (gCons (gName 8) (gCons (gName 9) gNil))) rfl sc_reserve.nd rfl rfl (sw_true rfl rfl rfl (by decide +kernel)) (pi_tup (pv 2)) (blkOk_by (own := [("chance", 8), ("value", 9)]) (N := n_reserve) (sc := defScope s_reserve) (by decide +kernel)) (fun _ _ _ _ _ => (pg_tup rfl (pgs_cons (pg_name (i := 8) sc_reserve.nd rfl (Or.inl rfl)) (pgs_cons (pg_name (i := 9) sc_reserve.nd rfl (Or.inl rfl)) pgs_nil)))) (fun _ _ _ _ _ => pts_one (pt_not (pt_val (pe_call (ok_is_below T) (hr.mono (by decide)) (by rfl) T.d_is_below.g T.d_is_below.F.kp T.d_is_below.b .nil pass0 (pa_cons (pv 9) (pa_cons (pv 5) pa_nil)))))) (fun _ _ _ _ _ => (pe_tup (pa_cons (pv 8) (pa_cons (pv 9) pa_nil)))))
      (pss_cons (ps_set (i := 7) sc_reserve.nd rfl (Or.inl rfl) (pe_call (ok_add_all T tb_add_all) (hr.mono (by decide)) (by rfl) T.d_add_all.g T.d_add_all.F.kp T.d_add_all.b .nil pass0 (pa_cons (pe_lc (own := [("chance", 8), ("value", 9)]) (g := gTup K 2 (gCons (gName 8) (gCons (gName 9) gNil))) (tt := tYes) rfl sc_reserve.nd (pi_list (pv 6)) (blkOk_by (own := [("chance", 8), ("value", 9)]) (N := n_reserve) (sc := defScope s_reserve) (by decide +kernel)) (fun _ _ _ _ _ => (pg_tup rfl (pgs_cons (pg_name (i := 8) sc_reserve.nd rfl (Or.inl rfl)) (pgs_cons (pg_name (i := 9) sc_reserve.nd rfl (Or.inl rfl)) pgs_nil)))) (fun _ _ _ _ _ => pts_nil) (fun _ _ _ _ _ => (pe_call (ok_multiply T) (hr.mono (by decide)) (by rfl) T.d_multiply.g T.d_multiply.F.kp T.d_multiply.b .nil pass0 (pa_cons (pv 8) (pa_cons (pv 9) pa_nil))))) pa_nil)))
      (pss_one (ps_expr (pe_bm PySem.F.plainAttrs_list PySem.F.slot_list_append PySem.F.type_list_append mt_append (pv 3) (pa_cons (pe_call (ok_divide T) (hr.mono (by decide)) (by rfl) T.d_divide.g T.d_divide.F.kp T.d_divide.b .nil pass0 (pa_cons (pe_call (ok_subtract T) (hr.mono (by decide)) (by rfl) T.d_subtract.g T.d_subtract.F.kp T.d_subtract.b .nil pass0 (pa_cons (pv 7) (pa_cons (pv 1) pa_nil))) (pa_cons (pe_call (ok_add_all T tb_add_all) (hr.mono (by decide)) (by rfl) T.d_add_all.g T.d_add_all.F.kp T.d_add_all.b .nil pass0 (pa_cons (pe_lc (own := [("chance", 8), ("_", 4)]) (g := gTup K 2 (gCons (gName 8) (gCons (gName 4) gNil))) (tt := tYes) rfl sc_reserve.nd (pi_list (pv 6)) (blkOk_by (own := [("chance", 8), ("_", 4)]) (N := n_reserve) (sc := defScope s_reserve) (by decide +kernel)) (fun _ _ _ _ _ => (pg_tup rfl (pgs_cons (pg_name (i := 8) sc_reserve.nd rfl (Or.inl rfl)) (pgs_cons (pg_name (i := 4) sc_reserve.nd rfl (Or.inl rfl)) pgs_nil)))) (fun _ _ _ _ _ => pts_nil) (fun _ _ _ _ _ => (pv 8))) pa_nil)) pa_nil))) pa_nil)))))))
      (pss_one (ps_ret (pe_call (ok_greatest T) (hr.mono (by decide)) (by rfl) T.d_greatest.g T.d_greatest.F.kp T.d_greatest.b .nil pass0 (pa_cons (pv 3) pa_nil)))))))), ?_⟩
    have L1 := ok.l1
    have L3 := ok.l3
    have BP := ok.p.toBxP
    refine n_seq ?_
    refine ⟨v, rfl, p, v, b, rfl, hd, ok, ht, fun H1 e1 t1 => ?_⟩
    obtain ⟨a1, x1, c1, ys, rfl, hS1, q1, hS2, hA2⟩ := bx_pair (Dq.xt e1 _ _ hd)
    have yl : ys.length = b.2.length := by rw [hA2.len, List.length_map]
    refine n_seq ?_
    refine ⟨_, rfl, a1, _, rfl, hS1, rfl, _, _, rfl, _, _, rfl, rfl, ?_⟩
    dsimp only
    refine n_seq ?_
    refine ⟨by show 0 ≤ sizeLine; decide, fun l fl => ?_⟩
    have x0 := Ex.new (o := .lst []) fl
    have hl0 : (upd H1 l (.lst [])) l = some (.lst []) := upd_same
    have t0 := t1.ex x0
    generalize upd H1 l (.lst []) = G0 at x0 hl0 t0
    dsimp only
    refine n_seq ?_
    refine ⟨_, rfl, c1, rfl, ⟨ys, ex_t x0 hS2⟩, ?_⟩
    refine for_tup (K := K) (a := c1) (xs := ys) (fun j σ G => ∃ (y4 y5 y6 y7 y8 y9 : Option V) (zs : List V), σ = [some (.ref a1), some x1, some (.ref c1), some (.ref l), y4, y5, y6, y7, y8, y9] ∧ ExT H1 G ∧ G l = some (.lst zs) ∧ DqAll K p G zs (((b.2.take j).map fun x => shareR b x.2).map frd) ∧ (∀ q ∈ (b.2.take j).map fun x => shareR b x.2, Bd 70 q) ∧ TBs (tts T) G) ⟨none, none, none, none, none, none, [], rfl, Ex.t x0, hl0, .nil, (fun q hq => by simp at hq), t0⟩ (fun j σ G _ h => by
      obtain ⟨_, _, _, _, _, _, _, _, e, _⟩ := h
      exact e.st hS2) ?_ ?_
    · rintro j x σ G hx ⟨y4, y5, y6, y7, y8, y9, zs, rfl, ex, hz, qs, bd, tG⟩
      obtain ⟨t, htt, qt⟩ := (DqAll.xt ex _ _ hA2).atG hx
      have tm := List.mem_of_getElem? htt
      have okt := ok.pz t tm
      obtain ⟨a3, u1, u2, rfl, hS3, p1, p2⟩ := qt.pair
      have hS2G := ex.st hS2
      have hA2G := DqAll.xt ex _ _ hA2
      refine ⟨a3, _, rfl, hS3, rfl, _, _, rfl, _, _, rfl, rfl, ?_⟩
      dsimp only
      refine n_seq ?_
      refine ⟨_, rfl, c1, rfl, ⟨ys, hS2G⟩, fun D nD => ?_⟩
      refine lc_data (rows := b.2) (rd := pzD) (out := pzD) (c := fun x => !decide (x.2 < t.2)) walk_tup (fun H e => ex_t e hS2G) nD hA2G (fun x _ => by simp [pzD, flatD, flatDA, flat_frd]) (by omega) (fun x v G1 R S hx ex1 q y n => ?_) fun ws G1 ex1 hw qw => ?_
      · obtain ⟨a4, w1, w2, rfl, hS4, r1, r2⟩ := q.pair
        refine ⟨a4, _, rfl, hS4, rfl, _, _, rfl, _, _, rfl, rfl, rfl, ?_⟩
        have okx := ok.pz x hx
        refine ⟨_, rfl, _, rfl, w2, u2, 4, 4, _, _, rfl, r2.frq okx.vb, (Dq.ex ex1 _ _ p2).frq okt.vb, by omega, fun G2 e2 => ⟨_, rfl, ?_⟩⟩
        by_cases c : x.2 < t.2
        · rw [decide_eq_true c]
          refine iteF ?_
          exact n (by simp [c]) G2 e2
        · rw [decide_eq_false c]
          refine iteT ?_
          refine ⟨_, rfl, _, rfl, by show 2 ≤ sizeLine; decide, fun t3 ft3 => ?_⟩
          have x3 := Ex.new (o := .tup [w1, w2]) ft3
          exact y (by simp [c]) _ _ (e2.trans x3) (.tup (SqT.of upd_same) (.cons (Dq.ex (e2.trans x3) _ _ r1) (.cons (Dq.ex (e2.trans x3) _ _ r2) .nil)))
      have fm : ∀ y ∈ b.2.filter (fun x => !decide (x.2 < t.2)), y ∈ b.2 := fun y hy => (List.mem_filter.mp hy).1
      have fl3 : (b.2.filter (fun x => !decide (x.2 < t.2))).length ≤ 3 := Nat.le_trans (List.length_filter_le _ _) L3
      obtain ⟨sA, cA⟩ := sum_above t.2 b.2
      generalize b.2.filter (fun x => !decide (x.2 < t.2)) = rows at qw fm fl3 sA cA
      have tA := tG.ex ex1
      have E1 := ex.trans (Ex.t ex1)
      have hz1 := ex1 _ _ hz
      have qs1 := DqAll.ex ex1 _ _ qs
      refine n_name ?_
      dsimp only
      -- gained
      refine n_seq ?_
      refine ⟨_, rfl, D, rfl, ⟨ws, SqL.of hw⟩, fun D2 nD2 => ?_⟩
      refine lc_data (rows := rows) (rd := pzD) (out := fun x => frd (x.1 * x.2)) (c := fun _ => true) walk_list (fun H e => SqL.of (e _ _ hw)) nD2 qw (fun x _ => flat_frd _) (by omega) (fun x v G2 R S hx ex2 q y n => ?_) fun vs2 G2 ex2 hv2 qv2 => ?_
      · obtain ⟨a4, w1, w2, rfl, hS4, r1, r2⟩ := q.pair
        have okx := ok.pz x (fm x hx)
        refine ⟨a4, _, rfl, hS4, rfl, _, _, rfl, _, _, rfl, rfl, rfl, ?_⟩
        refine yes_of ?_
        rw [if_pos rfl]
        exact ⟨_, rfl, _, rfl, w1, w2, 4, 4, _, _, rfl, r1.frq okx.qb, r2.frq okx.vb, by omega, trivial, fun z G3 e3 fz => y rfl z G3 e3 fz.dq⟩
      have hfr : List.filter (fun _ => true) rows = rows := List.filter_eq_self.mpr fun _ _ => rfl
      rw [hfr, show rows.map (fun x => frd (x.1 * x.2)) = (rows.map fun x => x.1 * x.2).map frd by rw [List.map_map]; rfl] at qv2
      refine rd_all (E := E0) hv2 qv2 (b := 9) (fun q hq => ?_) (by rw [List.length_map]; omega) ((tA.ex ex2) _ (by simp)) fun g G3 eB tb3 fg => ?_
      · obtain ⟨x, hx, rfl⟩ := List.mem_map.mp hq
        have okx := ok.pz x (fm x hx)
        exact okx.qb.mul okx.vb
      rw [sA, List.length_map] at fg
      have tB := (tA.ex ex2).b eB tb3
      have xb := xt_b ((tA.ex ex2) _ (by simp)) eB
      have E2 := (Ex.t ex2).trans xb
      have hz3 := E2.l hz1
      have hw3 := E2.l hw
      have qw3 := DqAll.xt E2 _ _ qw
      refine n_name ?_
      dsimp only
      -- the share
      refine ⟨_, rfl, .inl ⟨rfl, _, SqL.of hz3⟩, _, rfl, _, rfl, g, x1, 40, 8, _, _, rfl, fg.mono (by omega), ((Dq.xt (E1.trans E2) _ _ q1).frq ok.cb), by omega, trivial, fun d G4 e4 fd => ?_⟩
      refine ⟨_, rfl, D, rfl, ⟨ws, SqL.of (e4 _ _ hw3)⟩, fun D3 nD3 => ?_⟩
      refine lc_data (rows := rows) (rd := pzD) (out := fun x => frd x.1) (c := fun _ => true) walk_list (fun H e => SqL.of (e _ _ (e4 _ _ hw3))) nD3 (DqAll.ex e4 _ _ qw3) (fun x _ => flat_frd _) (by omega) (fun x v G2 R S hx ex2 q y n => ?_) fun vs3 G5 ex5 hv5 qv5 => ?_
      · obtain ⟨a4, w1, w2, rfl, hS4, r1, r2⟩ := q.pair
        refine ⟨a4, _, rfl, hS4, rfl, _, _, rfl, _, _, rfl, rfl, rfl, ?_⟩
        refine yes_of ?_
        rw [if_pos rfl]
        exact ⟨_, rfl, y rfl _ _ (Ex.refl _) r1⟩
      rw [hfr, show rows.map (fun x => frd x.1) = (rows.map fun x => x.1).map frd by rw [List.map_map]; rfl] at qv5
      have t5 := (tB.ex e4).ex ex5
      refine rd_all (E := E0) hv5 qv5 (b := 4) (fun q hq => ?_) (by rw [List.length_map]; omega) (t5 _ (by simp)) fun h G6 eB6 tb6 fh => ?_
      · obtain ⟨x, hx, rfl⟩ := List.mem_map.mp hq
        exact (ok.pz x (fm x hx)).qb
      rw [cA, List.length_map] at fh
      have t6 := t5.b eB6 tb6
      have xb6 := xt_b (t5 _ (by simp)) eB6
      have E3 := (Ex.t (e4.trans ex5)).trans xb6
      have cp := cntA_pos BP.p0 tm
      refine ⟨d, h, 49, 20, _, _, rfl, (fd.xt ((Ex.t ex5).trans xb6)).mono (by omega), fh.mono (by omega), by omega, by grind, fun r G7 e7 fr => ?_⟩
      have hz7 := (E3.trans (Ex.t e7)).l hz3
      have zl : zs.length ≤ 3 := by
        rw [qs.len, List.length_map, List.length_map, List.length_take]
        omega
      refine ⟨l, zs, r, rfl, rfl, hz7, small1000 (by omega), ?_⟩
      have up : ExB l G7 (upd G7 l (.lst (zs ++ [r]))) := ExB.upd (ExB.refl l G7)
      have E7 := (E1.trans E2).trans (E3.trans (Ex.t e7))
      have fr' : Fr K 70 (shareR b t.2) r G7 := fr
      refine ⟨_, _, _, _, _, _, zs ++ [r], rfl, fun b' o n hb' => ?_, upd_same, ?_, ?_, (t6.ex e7).lst hz7⟩
      · rw [upd_ne (by rintro rfl; rw [fl] at hb'; cases hb')]
        exact E7 b' o n hb'
      · rw [take_snoc htt, List.map_append, List.map_append]
        have fl0 : flatDA (((b.2.take j).map fun x => shareR b x.2).map frd) = true := flatDA_of fun d hd => by
          obtain ⟨q, _, rfl⟩ := List.mem_map.mp hd
          exact flat_frd q
        exact (DqAll.fl (tupd_l hz7) up _ _ fl0 (DqAll.xt (E2.trans (E3.trans (Ex.t e7))) _ _ qs1)).append (.cons (Dq.fl (tupd_l hz7) up _ _ (flat_frd _) fr'.dq) .nil)
      · intro q hq
        rw [take_snoc htt, List.map_append] at hq
        rcases List.mem_append.mp hq with hq | hq
        · exact bd q hq
        · rw [List.mem_singleton.mp hq]
          exact fr'.bd
    · rintro σ G ⟨y4, y5, y6, y7, y8, y9, zs, rfl, ex, hz, qs, bd, tG⟩
      rw [yl, List.take_length] at qs bd
      dsimp only
      refine ⟨_, rfl, p, l, zs, _, 70, rfl, hz, qs, bd, by decide, (fun z => by
        have := List.map_eq_nil_iff.mp z
        rw [this] at L1
        cases L1), fun z G2 e2 fz => ?_⟩
      exact kk z _ G2 ((e1.trans ex).trans (Ex.t e2)) (tG.ex e2) fz (res_of BP.ne)
theorem ok_boxes_worth (T : Txt K mg) (tb_add_all : GxR.TabB base mg T.c_add_all T.P_add_all) (tb_are_prizes : GxR.TabB base mg T.c_are_prizes T.P_are_prizes) (tb_is_boxes : GxR.TabB base mg T.c_is_boxes T.P_is_boxes) : FnOk P w K mg base CX0 17 T.d_boxes_worth.a T.d_boxes_worth.fd ["boxes"] (spBxW K (tts T)) := by
  refine T.d_boxes_worth.F.ok sc_boxes_worth (fun vs H Q E h => ?_) (fun cdv A outer s H vs Q E hr h => ?_)
  · obtain ⟨p, v, B, rfl, _⟩ := h
    rfl
  · obtain ⟨p, v, B, rfl, hd, l1, l2, ok, ht, kk⟩ := h
    refine ⟨_, (pss_cons (ps_expr (pe_call (ok_require_boxes T tb_add_all tb_are_prizes tb_is_boxes) (hr.mono (by decide)) (by rfl) T.d_require_boxes.g T.d_require_boxes.F.kp T.d_require_boxes.b .nil pass0 (pa_cons (pv 0) pa_nil)))
      (pss_one (ps_ret (pe_call (ok_best_worth_of T tb_add_all 2) (hr.mono (by decide)) (by rfl) T.d_best_worth_of.g T.d_best_worth_of.F.kp T.d_best_worth_of.b .nil pass0 (pa_cons (pv 0) (pa_cons (pe_op op_repZ (pe_tup (pa_cons pe_non pa_nil)) (pe_callB call_len_seq (by rfl) T.n_len (by decide +kernel) (pa_cons (pv 0) pa_nil))) (pa_cons pe_dnewN pa_nil))))))), ?_⟩
    refine n_seq ?_
    refine ⟨v, rfl, p, v, B, rfl, hd, l1, by omega, ok, ht, fun H1 e1 t1 => ?_⟩
    dsimp only
    have hd1 := Dq.xt e1 _ _ hd
    have hd1' : Dq K p H1 v (.tuple (B.map bxD)) := hd1
    obtain ⟨a, xs, rfl, hS, hA⟩ := hd1'.seq
    have xl : xs.length = B.length := by rw [hA.len, List.length_map]
    have nol : (noS B).map optV = List.replicate B.length V.non := by
      unfold noS
      rw [List.map_map]
      exact List.map_eq_replicate_iff.mpr fun x _ => rfl
    refine ⟨_, rfl, by show 1 ≤ sizeLine; decide, fun t ft => ?_⟩
    have x1 := Ex.new (o := .tup [V.non]) ft
    have ht1 : (upd H1 t (.tup [V.non])) t = some (.tup [V.non]) := upd_same
    generalize upd H1 t (.tup [V.non]) = G1 at x1 ht1
    refine ⟨_, rfl, a, xs, rfl, .inr (ex_t x1 hS), ?_⟩
    have fin : ∀ (c : Addr) (G : Hp), Ex H1 G → G c = some (.tup ((noS B).map optV)) → tCons (tDNewN P w) tNil (L2.start [Str.ofString "boxes"] [V.ref a]) G fun vs H2 => spBst P w K (tts T) 2 (V.ref a :: V.ref c :: vs ++ []) H2 (fun v H' => Q v H') E0 := fun c G eG hc => by
      intro d φ hd0 dn
      have x2 := Ex.new (o := .ext φ) hd0
      exact ⟨p, _, c, d, B, noS B, 0, rfl, Dq.ex (eG.trans x2) _ _ hd1, x2 _ _ hc, by omega, ok, sn_no B, by rw [nn_no]; exact l2, Nat.le_refl _, by decide, KnB.new dn, t1.ex (eG.trans x2), fun z H' e' kn' t' fz => kk z H' ((e1.n.trans (Ex.n (eG.trans x2))).trans e') t' (fz.mono (bnS_le _))⟩
    refine ⟨t, (xs.length : Int), [V.non], rfl, rfl, SqT.of ht1, (fun z => nomatch z), by omega, by omega, by show 1 ≤ 1000; decide, fun h1 t2 ft2 => ?_, fun h1 => ?_⟩
    · refine fin t2 _ (x1.trans (Ex.new ft2)) ?_
      rw [upd_same, nol, Int.toNat_natCast, xl]
      congr 2
      exact List.flatten_replicate_singleton
    · refine fin t _ x1 ?_
      rw [ht1, nol, show B.length = 1 by omega]
      rfl
theorem ok_best_moves (T : Txt K mg) (tb_add_all : GxR.TabB base mg T.c_add_all T.P_add_all) (tb_are_prizes : GxR.TabB base mg T.c_are_prizes T.P_are_prizes) (tb_is_boxes : GxR.TabB base mg T.c_is_boxes T.P_is_boxes) (tb_is_seen : GxR.TabB base mg T.c_is_seen T.P_is_seen) : FnOk P w K mg base CX0 16 T.d_best_moves.a T.d_best_moves.fd ["boxes", "seen"] (spBmv K (tts T)) := by
  refine T.d_best_moves.F.ok sc_best_moves (fun vs H Q E h => ?_) (fun cdv A outer s H vs Q E hr h => ?_)
  · obtain ⟨p, u, c, B, s, rfl, _⟩ := h
    rfl
  · obtain ⟨p, u, c, B, sn, rfl, hu, hc, l1, l2, ok, so, ht, kk⟩ := h
    have hu62 : (A.deeper (envOfC (Str.ofString "best_moves") (defScope s_best_moves) s.heap.objs.size T.d_best_moves.a cdv)).units + 62 < cLine := by have := hr.un; omega
    refine ⟨_, (pss_cons (ps_expr (pe_call (ok_require_boxes_and_seen T tb_add_all tb_are_prizes tb_is_boxes tb_is_seen) (hr.mono (by decide)) (by rfl) T.d_require_boxes_and_seen.g T.d_require_boxes_and_seen.F.kp T.d_require_boxes_and_seen.b .nil pass0 (pa_cons (pv 0) (pa_cons (pv 1) pa_nil))))
      (pss_cons (ps_set (i := 2) sc_best_moves.nd rfl (Or.inl rfl) (pe_call (ok_moves_of T tb_add_all 2) (hr.mono (by decide)) (by rfl) T.d_moves_of.g T.d_moves_of.F.kp T.d_moves_of.b .nil pass0 (pa_cons (pv 0) (pa_cons (pv 1) (pa_cons pe_dnewN pa_nil)))))
      (pss_cons (ps_set (i := 3) sc_best_moves.nd rfl (Or.inr rfl) (pe_call (ok_greatest T) (hr.mono (by decide)) (by rfl) T.d_greatest.g T.d_greatest.F.kp T.d_greatest.b .nil pass0 (pa_cons (pe_lc (own := [("_", 4), ("worth", 5)]) (g := gTup K 2 (gCons (gName 4) (gCons (gName 5) gNil))) (tt := tYes) rfl sc_best_moves.nd (pi_list (pv 2)) (blkOk_by (own := [("_", 4), ("worth", 5)]) (N := n_best_moves) (sc := defScope s_best_moves) (by decide +kernel)) (fun _ _ _ _ _ => (pg_tup rfl (pgs_cons (pg_name (i := 4) sc_best_moves.nd rfl (Or.inl rfl)) (pgs_cons (pg_name (i := 5) sc_best_moves.nd rfl (Or.inl rfl)) pgs_nil)))) (fun _ _ _ _ _ => pts_nil) (fun _ _ _ _ _ => (pv 5))) pa_nil)))
      (pss_one (ps_ret (pe_callB (So.cr_sortedD hu62) (by rfl) T.n_sorted (by decide +kernel) (pa_cons (pe_lc (own := [("move", 6), ("worth", 5)]) (g := gTup K 2 (gCons (gName 6) (gCons (gName 5) gNil))) (tt := tTest (tOp (rEqD K) (tVar 5) (tVar 3))) rfl sc_best_moves.nd (pi_list (pv 2)) (blkOk_by (own := [("move", 6), ("worth", 5)]) (N := n_best_moves) (sc := defScope s_best_moves) (by decide +kernel)) (fun _ _ _ _ _ => (pg_tup rfl (pgs_cons (pg_name (i := 6) sc_best_moves.nd rfl (Or.inl rfl)) (pgs_cons (pg_name (i := 5) sc_best_moves.nd rfl (Or.inl rfl)) pgs_nil)))) (fun _ _ _ _ _ => pts_one (pt_cmpR (op_eqD hr.units) (pv 5) (pv 3) (nomark _))) (fun _ _ _ _ _ => (pv 6))) pa_nil))))))), ?_⟩
    have n2 : nnS sn ≤ 2 := by
      have := nn_le sn
      have := so.l
      omega
    refine n_seq ?_
    refine ⟨_, rfl, _, rfl, p, u, _, B, sn, rfl, hu, .tup (SqT.of hc) (opts_dq sn), l1, by omega, ok, so, ht, fun H1 e1 t1 => ?_⟩
    dsimp only
    refine n_seq ?_
    refine ⟨_, rfl, _, rfl, fun d φ hd0 dn => ?_⟩
    have x2 := Ex.new (o := .ext φ) hd0
    have E2 := e1.n.trans (Ex.n x2)
    refine ⟨p, u, c, d, B, sn, 0, rfl, Dq.xn E2 _ _ hu, E2.tp hc, by omega, ok, so, n2, Nat.le_refl _, by decide, KnB.new dn, t1.ex x2, fun l zs G e3 kn3 t3 nl hz qs bd => ?_⟩
    have E3 := E2.trans e3
    refine n_name ?_
    dsimp only
    have al : (mvAll B sn).length ≤ 900 := by
      unfold mvAll
      rw [List.length_cons, mvRows_len _ _ _ _ _ so.l, so.l]
      omega
    refine n_seq ?_
    refine ⟨_, rfl, l, rfl, ⟨zs, SqL.of hz⟩, fun D nD => ?_⟩
    refine lc_data (rows := mvAll B sn) (rd := rowD) (out := fun r => frd r.2) (c := fun _ => true) walk_list (fun H e => SqL.of (e _ _ hz)) nD qs (fun x _ => flat_frd _) al (fun x v G1 R S hx ex q y n => ?_) fun ws G1 ex hw qw => ?_
    · obtain ⟨a2, u1, u2, rfl, hS3, q1, q2⟩ := q.pair
      refine ⟨a2, _, rfl, hS3, rfl, _, _, rfl, _, _, rfl, rfl, rfl, ?_⟩
      refine yes_of ?_
      rw [if_pos rfl]
      exact ⟨_, rfl, y rfl _ _ (Ex.refl _) q2⟩
    have hf : List.filter (fun _ => true) (mvAll B sn) = mvAll B sn := List.filter_eq_self.mpr fun _ _ => rfl
    rw [hf, show (mvAll B sn).map (fun r => frd r.2) = ((mvAll B sn).map fun r => r.2).map frd by rw [List.map_map]; rfl] at qw
    have qd : ∀ q ∈ (mvAll B sn).map (fun r => r.2), Bd (bnS (nnS sn)) q := fun q hq => by
      obtain ⟨r, hr, rfl⟩ := List.mem_map.mp hq
      exact bd r hr
    refine ⟨p, D, ws, _, bnS (nnS sn), rfl, hw, qw, qd, by have := bnS_le (nnS sn); omega, (fun z => nomatch z), fun z G2 e2 fz => ?_⟩
    rw [show ((mvAll B sn).map fun r => r.2).headD 0 = 0 from rfl, mvAll_max] at fz
    refine n_name ?_
    dsimp only
    have hz2 := (ex.trans e2) _ _ hz
    have qs2 := DqAll.ex (ex.trans e2) _ _ qs
    refine ⟨_, rfl, l, rfl, ⟨zs, SqL.of hz2⟩, fun D2 nD2 => ?_⟩
    refine lc_data (rows := mvAll B sn) (rd := rowD) (out := fun r => r.1) (c := fun r => decide (r.2 = best B sn)) walk_list (fun H e => SqL.of (e _ _ hz2)) nD2 qs2 (fun x hx => mvAll_flat x hx) al (fun x v G3 R S hx ex3 q y n => ?_) fun ws2 G3 ex3 hw2 qw2 => ?_
    · obtain ⟨a2, u1, u2, rfl, hS3, q1, q2⟩ := q.pair
      refine ⟨a2, _, rfl, hS3, rfl, _, _, rfl, _, _, rfl, rfl, rfl, ?_⟩
      refine (et_test (ev_eqD (K := K) (ep_var rfl (q2.frq (bd x hx))) (ep_var rfl (fz.ex ex3)))) G3 (Ex.refl _) _ fun G4 e4 => ?_
      by_cases c : x.2 = best B sn
      · rw [decide_eq_true c]
        refine iteT ?_
        exact ⟨_, rfl, y (decide_eq_true c) _ _ e4 (Dq.ex e4 _ _ q1)⟩
      · rw [decide_eq_false c]
        refine iteF ?_
        exact n (decide_eq_false c) _ e4
    refine ⟨D2, p, ws2, _, rfl, SqL.of hw2, qw2, rw_moves B sn, fun ys b hy hb => ?_⟩
    have x4 := Ex.new (o := .lst ys) hb
    exact kk b ys _ (E3.trans (Ex.n (ex.trans (e2.trans (ex3.trans x4))))) (((t3.ex ex).ex e2).ex (ex3.trans x4)) upd_same (DqAll.ex x4 _ _ hy)
end
/-! ### the law's own boxes -/
mutual
theorem Dq.exb {K : PySem.W.Frag} {p : Addr} {H H' : Hp} {xs : List V} (hp : H p = some (.lst xs)) (e : ExB p H H') : ∀ (d : PyData) (v : V), Dq K p H v d → Dq K p H' v d
  | _, _, .non => .non
  | _, _, .bl b => .bl b
  | _, _, .int i => .int i
  | _, _, .str x => .str x
  | _, _, .lst n m h hs => .lst n m (e _ _ n h) (DqAll.exb hp e _ _ hs)
  | _, _, .tup h hs => .tup (tup_lst hp e h) (DqAll.exb hp e _ _ hs)
  | _, _, .emp h => .emp (e _ _ (by rintro rfl; rw [hp] at h; cases h) h)
theorem DqAll.exb {K : PySem.W.Frag} {p : Addr} {H H' : Hp} {xs : List V} (hp : H p = some (.lst xs)) (e : ExB p H H') : ∀ (ds : List PyData) (vs : List V), DqAll K p H vs ds → DqAll K p H' vs ds
  | _, _, .nil => .nil
  | _, _, .cons h hs => .cons (Dq.exb hp e _ _ h) (DqAll.exb hp e _ _ hs)
end

def bdB (b : Nat) (d : PyData) : Bool := decide ((frQ d).num.natAbs < 2 ^ b) && decide ((frQ d).den < 2 ^ b)
theorem bdB_bd {b : Nat} {d : PyData} (h : bdB b d = true) : Bd b (frQ d) := by
  unfold bdB at h
  simp only [Bool.and_eq_true, decide_eq_true_eq] at h
  exact h
theorem posZ_fr {d : PyData} (h : posZ d = true) : frB d = true ∧ 0 ≤ frQ d := by
  unfold posZ at h
  simp only [Bool.and_eq_true, decide_eq_true_eq] at h
  exact ⟨h.1, Rat.num_nonneg.mp h.2⟩
theorem posB_fr {d : PyData} (h : posB d = true) : frB d = true ∧ 0 < frQ d := by
  unfold posB at h
  simp only [Bool.and_eq_true, decide_eq_true_eq] at h
  exact ⟨h.1, (num_pos_iff _).mp h.2⟩
abbrev fD (n m : Int) : PyData := .tuple [.int n, .int m]
def prcD : List PyData := [fD 1 1, fD 0 1, fD 1 2, fD 2 1, fD 5 1, fD 1 3]
def wthD : List PyData := [fD 6 1, fD 0 1, fD 8 1, fD 2 1, fD 1 2, fD 10 3, fD 6 1]
def chnD : List (List PyData) := [[fD 1 1], [fD 1 2, fD 1 2], [fD 1 4, fD 3 4], [fD 1 3, fD 1 2, fD 1 6], [fD 2 5, fD 2 5, fD 1 5]]
theorem good_prc : ∀ d ∈ prcD, (posZ d && bdB 4 d) = true := by decide +kernel
theorem good_wth : ∀ d ∈ wthD, (posZ d && bdB 4 d) = true := by decide +kernel
theorem good_chn : ∀ r ∈ chnD, (decide (1 ≤ r.length) && (decide (r.length ≤ 3) && (r.all (fun d => posB d && bdB 4 d) && decide ((r.map frQ).sum = 1)))) = true := by decide +kernel
section
variable {K : PySem.W.Frag} {p a : Addr} {σ : L2.St} {H : Hp} {N : Nat}
theorem ed_F {n m : Int} : EvD K p (tTup (tCons (tC (.int n)) (tCons (tC (.int m)) tNil))) σ H (fD n m) := ed_P ed_I ed_I
/-- one of some data, drawn -/
theorem rd_drawD {te : TE} {ds : List PyData} {n j : Nat} {Q : VK} {E : XK} (hm : EvD K p te σ H (.list ds)) (hp : Pen H p a N) (hj : σ[j]? = some (some (.ref p))) (hn : ds.length = n) (l0 : 0 < n) (l1 : n ≤ 900) (hN : N ≤ 90000)
    (k : ∀ v d H', d ∈ ds → ExB p H H' → Pen H' p a (N + 1) → Dq K p H' v d → Q v H') : tOp (rIxL K) te (tCall (spDraw K) [] E (tCons (tVar j) (tCons (tC (.int (n : Nat))) tNil))) σ H Q := by
  refine hm H (Ex.refl H) _ fun v H1 e1 q => ?_
  cases q with
  | @lst l vs ds nl ml hl hA =>
    have vl := hA.len
    have hp1 := hp.ex e1
    obtain ⟨xp, hxp⟩ := hp1.hasP
    refine ⟨_, hj, p, a, _, N, rfl, hp1, by omega, by omega, by omega, fun r H2 r0 r1 eb hp2 => ?_⟩
    obtain ⟨i, rfl⟩ : ∃ i : Nat, r = i := ⟨r.toNat, by omega⟩
    have hi : i < ds.length := by omega
    obtain ⟨x, hx, qx⟩ := hA.get (List.getElem?_eq_getElem hi)
    refine ⟨l, vs, _, x, rfl, rfl, SqL.of (eb _ _ nl hl), atI_nat hx, ?_⟩
    exact k x _ H2 (List.getElem_mem hi) ((Ex.b e1).trans eb) hp2 (Dq.exb hxp eb _ _ qx)
end
def spBox (K : PySem.W.Frag) : Sp := fun vs H Q _ => ∃ (p a : Addr) (N : Nat), vs = [.ref p] ∧ Pen H p a N ∧ N ≤ 80000 ∧ ∀ v b H', ExB p H H' → Pen H' p a (N + 5) → Dq K p H' v (bxD b) → BxOk b → Bd 4 b.1 → Q v H'
theorem gain_app (m : Rat) : ∀ (ps : List (Rat × Rat)) (x : Rat × Rat), gain (ps ++ [x]) m = gain ps m + x.1 * (if m < x.2 then x.2 - m else 0)
  | [], x => by
    unfold gain
    rw [List.nil_append, mean_cons, mean_nil]
    grind
  | y :: ps, x => by
    have := gain_app m ps x
    unfold gain at this ⊢
    rw [List.cons_append, mean_cons, mean_cons, this]
    grind
def spOver (K : PySem.W.Frag) : Sp := fun vs H Q _ => ∃ (p : Addr) (u v : V) (b : Bx) (m : Rat), vs = [u, v] ∧ Dq K p H u (bxD b) ∧ BxOk b ∧ Fr K 70 m v H ∧ ∀ z H', Ex H H' → Fr K 250 (gain b.2 m) z H' → Q z H'
theorem ep_m1 {K : PySem.W.Frag} {σ : L2.St} {H : Hp} : EvP (tTup (tCons (tUn (rU fun i => .int (-i)) (tC (.int 1))) (tCons (tC (.int 1)) tNil))) σ H (Fr K 1 (-1)) := ep_tup (ev_neg ev_c) ev_c rfl rfl ⟨by decide, by decide⟩
section
variable {P : Program} {w : World} {K : PySem.W.Frag} {mg : Str → Option Value} {base : Heap}
theorem ok__law_box (T : Txt K mg) : FnOk P w K mg base CX0 3 T.d__law_box.a T.d__law_box.fd ["_law_pen_here"] (spBox K) := by
  refine T.d__law_box.F.ok sc__law_box (fun vs H Q E h => ?_) (fun cdv A outer s H vs Q E hr h => ?_)
  · obtain ⟨p, a, N, rfl, _⟩ := h
    rfl
  · obtain ⟨p, a, N, rfl, hp, hN, k⟩ := h
    refine ⟨_, (pss_cons (ps_set (i := 1) sc__law_box.nd rfl (Or.inl rfl) (pe_ix ix_list (pe_lstN (pa_cons (pe_tup (pa_cons pe_int (pa_cons pe_int pa_nil))) (pa_cons (pe_tup (pa_cons pe_int (pa_cons pe_int pa_nil))) (pa_cons (pe_tup (pa_cons pe_int (pa_cons pe_int pa_nil))) (pa_cons (pe_tup (pa_cons pe_int (pa_cons pe_int pa_nil))) (pa_cons (pe_tup (pa_cons pe_int (pa_cons pe_int pa_nil))) (pa_cons (pe_tup (pa_cons pe_int (pa_cons pe_int pa_nil))) pa_nil))))))) (pe_call (ok__law_draw T) (hr.mono (by decide)) (by rfl) T.d__law_draw.g T.d__law_draw.F.kp T.d__law_draw.b .nil pass0 (pa_cons (pv 0) (pa_cons pe_int pa_nil))) (fun _ _ => rfl)))
      (pss_cons (ps_set (i := 2) sc__law_box.nd rfl (Or.inr rfl) (pe_lstN (pa_cons (pe_tup (pa_cons pe_int (pa_cons pe_int pa_nil))) (pa_cons (pe_tup (pa_cons pe_int (pa_cons pe_int pa_nil))) (pa_cons (pe_tup (pa_cons pe_int (pa_cons pe_int pa_nil))) (pa_cons (pe_tup (pa_cons pe_int (pa_cons pe_int pa_nil))) (pa_cons (pe_tup (pa_cons pe_int (pa_cons pe_int pa_nil))) (pa_cons (pe_tup (pa_cons pe_int (pa_cons pe_int pa_nil))) (pa_cons (pe_tup (pa_cons pe_int (pa_cons pe_int pa_nil))) pa_nil)))))))))
      (pss_cons (ps_set (i := 3) sc__law_box.nd rfl (Or.inl rfl) (pe_lstN (pa_cons (pe_lstN (pa_cons (pe_tup (pa_cons pe_int (pa_cons pe_int pa_nil))) pa_nil)) (pa_cons (pe_lstN (pa_cons (pe_tup (pa_cons pe_int (pa_cons pe_int pa_nil))) (pa_cons (pe_tup (pa_cons pe_int (pa_cons pe_int pa_nil))) pa_nil))) (pa_cons (pe_lstN (pa_cons (pe_tup (pa_cons pe_int (pa_cons pe_int pa_nil))) (pa_cons (pe_tup (pa_cons pe_int (pa_cons pe_int pa_nil))) pa_nil))) (pa_cons (pe_lstN (pa_cons (pe_tup (pa_cons pe_int (pa_cons pe_int pa_nil))) (pa_cons (pe_tup (pa_cons pe_int (pa_cons pe_int pa_nil))) (pa_cons (pe_tup (pa_cons pe_int (pa_cons pe_int pa_nil))) pa_nil)))) (pa_cons (pe_lstN (pa_cons (pe_tup (pa_cons pe_int (pa_cons pe_int pa_nil))) (pa_cons (pe_tup (pa_cons pe_int (pa_cons pe_int pa_nil))) (pa_cons (pe_tup (pa_cons pe_int (pa_cons pe_int pa_nil))) pa_nil)))) pa_nil)))))))
      (pss_cons (ps_set (i := 4) sc__law_box.nd rfl (Or.inl rfl) (pe_ix ix_list (pv 3) (pe_call (ok__law_draw T) (hr.mono (by decide)) (by rfl) T.d__law_draw.g T.d__law_draw.F.kp T.d__law_draw.b .nil pass0 (pa_cons (pv 0) (pa_cons pe_int pa_nil))) (fun _ _ => rfl)))
      (pss_one (ps_ret (pe_tup (pa_cons (pv 1) (pa_cons (pe_callTy call_tuple_of (by rfl) T.n_tuple (by decide +kernel) (pa_cons (pe_lc (own := [("_law_chance", 5)]) (g := gName 5) (te := tTup (tCons (tVar 5) (tCons (tOp (rIxL K) (tVar 2) (tCall (spDraw K) [] E0 (tCons (tVar 0) (tCons (tC (.int 7)) tNil)))) tNil))) (tt := tYes) rfl sc__law_box.nd (pi_list (pv 4)) (blkOk_by (own := [("_law_chance", 5)]) (N := n__law_box) (sc := defScope s__law_box) (by decide +kernel)) (fun _ _ _ _ _ => pg_name (i := 5) sc__law_box.nd rfl (Or.inl rfl)) (fun _ _ _ _ _ => pts_nil) (fun _ _ _ _ _ => (pe_tup (pa_cons (pv 5) (pa_cons (pe_ix ix_list (pv 2) (pe_call (ok__law_draw T) (hr.mono (by decide)) (by rfl) T.d__law_draw.g T.d__law_draw.F.kp T.d__law_draw.b .nil pass0 (pa_cons (pv 0) (pa_cons pe_int pa_nil))) (fun _ _ => rfl)) pa_nil))))) pa_nil)) pa_nil))))))))), ?_⟩
    obtain ⟨xp0, hxp0⟩ := hp.hasP
    refine n_seq ?_
    refine rd_drawD (K := K) (p := p) (ds := prcD) (n := 6) (j := 0) (ed_lst hxp0 (eds_cons ed_F (eds_cons ed_F (eds_cons ed_F (eds_cons ed_F (eds_cons ed_F (eds_cons ed_F eds_nil)))))) (by decide)) hp rfl rfl (by decide) (by decide) (by omega) fun v d H1 hd eb1 hp1 q1 => ?_
    have gp := good_prc d hd
    simp only [Bool.and_eq_true] at gp
    obtain ⟨f1, n1⟩ := posZ_fr gp.1
    have b1 := bdB_bd gp.2
    obtain ⟨xp1, hxp1⟩ := hp1.hasP
    refine n_name ?_
    dsimp only
    refine n_seq ?_
    refine s_asgP (ed_lst (K := K) (p := p) (ds := wthD) hxp1 (eds_cons ed_F (eds_cons ed_F (eds_cons ed_F (eds_cons ed_F (eds_cons ed_F (eds_cons ed_F (eds_cons ed_F eds_nil))))))) (by decide)) fun wv H2 e2 q2 => ?_
    have hp2 := hp1.ex e2
    have hxp2 := e2 _ _ hxp1
    dsimp only
    refine n_seq ?_
    refine s_asgP (ed_lst (K := K) (p := p) (ds := chnD.map PyData.list) hxp2 (eds_cons (ed_lst hxp2 (eds_cons ed_F eds_nil) (by show 1 ≤ 1000; decide)) (eds_cons (ed_lst hxp2 (eds_cons ed_F (eds_cons ed_F eds_nil)) (by show 2 ≤ 1000; decide)) (eds_cons (ed_lst hxp2 (eds_cons ed_F (eds_cons ed_F eds_nil)) (by show 2 ≤ 1000; decide)) (eds_cons (ed_lst hxp2 (eds_cons ed_F (eds_cons ed_F (eds_cons ed_F eds_nil))) (by show 3 ≤ 1000; decide)) (eds_cons (ed_lst hxp2 (eds_cons ed_F (eds_cons ed_F (eds_cons ed_F eds_nil))) (by show 3 ≤ 1000; decide)) eds_nil))))) (by decide)) fun cv H3 e3 q3 => ?_
    have hp3 := hp2.ex e3
    have hxp3 := e3 _ _ hxp2
    dsimp only
    refine n_seq ?_
    refine rd_drawD (K := K) (p := p) (ds := chnD.map PyData.list) (n := 5) (j := 0) (ed_var rfl q3) hp3 rfl rfl (by decide) (by decide) (by omega) fun rv rd H4 hrd eb4 hp4 q4 => ?_
    obtain ⟨row, hrow, rfl⟩ := List.mem_map.mp hrd
    have gr := good_chn row hrow
    simp only [Bool.and_eq_true, decide_eq_true_eq, List.all_eq_true] at gr
    obtain ⟨r1, r3, rg, rs⟩ := gr
    obtain ⟨xp4, hxp4⟩ := hp4.hasP
    have q1' : Dq K p H4 v d := Dq.exb hxp3 eb4 _ _ (Dq.ex (e2.trans e3) _ _ q1)
    have q2' : Dq K p H4 wv (.list wthD) := Dq.exb hxp3 eb4 _ _ (Dq.ex e3 _ _ q2)
    have EB := (eb1.trans (Ex.b (e2.trans e3))).trans eb4
    refine n_name ?_
    dsimp only
    cases q4 with
    | @lst rl xs _ nrl mrl hrl hA =>
    have xl := hA.len
    refine ⟨_, rfl, _, rfl, rl, rfl, ⟨xs, SqL.of hrl⟩, fun D nD => ?_⟩
    have nDp : D ≠ p := by
      rintro rfl
      rw [hxp4] at nD
      cases nD
    have nDr : rl ≠ D := by
      rintro rfl
      rw [hrl] at nD
      cases nD
    refine lc_list (K := K) (a := rl) (xs := xs) (fun i G => ExB p H4 G ∧ Pen G p a (N + 2 + i) ∧ ∃ zs ws, G D = some (.lst zs) ∧ DqAll K p G zs (ws.map pzD) ∧ (∀ x ∈ ws, PzOk x) ∧ ws.map (fun x => x.1) = (row.take i).map frQ) ⟨Ex.b (Ex.new nD), hp4.upd nDp (by
      obtain ⟨_, hxa⟩ := hp4.hasC
      rintro rfl
      rw [hxa] at nD
      cases nD), [], [], upd_same, .nil, (fun x hx => by cases hx), rfl⟩ (fun i G _ h => SqL.of (h.1 _ _ nrl hrl)) ?_ ?_
    · rintro i x G hx ⟨eb, hpG, zs, ws, hz, qs, okw, em⟩
      have il : i < xs.length := (List.getElem?_eq_some_iff.mp hx).1
      obtain ⟨d', hd'⟩ : ∃ d', row[i]? = some d' := ⟨_, List.getElem?_eq_getElem (by omega)⟩
      obtain ⟨x', hx', qx⟩ := (DqAll.exb hxp4 eb _ _ hA).get hd'
      rw [hx] at hx'
      cases hx'
      have g5 := rg d' (List.mem_of_getElem? hd')
      obtain ⟨f5, p5⟩ := posB_fr g5.1
      have b5 := bdB_bd g5.2
      refine ⟨rfl, ?_⟩
      refine yes_of ?_
      rw [if_pos rfl]
      refine ⟨_, rfl, ?_⟩
      refine rd_drawD (K := K) (p := p) (ds := wthD) (n := 7) (j := 0) (ed_var rfl (Dq.exb hxp4 eb _ _ q2')) hpG rfl rfl (by decide) (by decide) (by omega) fun y d6 G6 hd6 eb6 hp6 q6 => ?_
      obtain ⟨xpG, hxpG⟩ := hpG.hasP
      have g6 := good_wth d6 hd6
      simp only [Bool.and_eq_true] at g6
      obtain ⟨f6, p6⟩ := posZ_fr g6.1
      have b6 := bdB_bd g6.2
      refine ⟨by show 2 ≤ sizeLine; decide, fun t ft => ?_⟩
      have xt := Ex.new (o := .tup [x, y]) ft
      have hzD := xt _ _ (eb6 _ _ nDp hz)
      have qx6 := Dq.ex xt _ _ (Dq.exb hxpG eb6 _ _ qx)
      have qy6 := Dq.ex xt _ _ q6
      have wl : ws.length = i := by
        have := congrArg List.length em
        rw [List.length_map, List.length_map, List.length_take] at this
        omega
      have zl : zs.length = i := by rw [qs.len, List.length_map, wl]
      refine ⟨zs, hzD, small1000 (by omega), ?_⟩
      have EG := (eb.trans eb6).trans (Ex.b xt)
      have up : ExB D (upd G6 t (.tup [x, y])) (upd (upd G6 t (.tup [x, y])) D (.lst (zs ++ [.ref t]))) := ExB.upd (ExB.refl D _)
      refine ⟨fun b' o n hb' => ?_, ((hp6.ex xt).upd nDp (fun z => ?_)).mono (by omega), zs ++ [.ref t], ws ++ [(frQ d', frQ d6)], upd_same, ?_, fun z hz' => ?_, ?_⟩
      · rw [upd_ne (ne_of_none hb' nD)]
        exact EG b' o n hb'
      · obtain ⟨_, hxa⟩ := hp4.hasC
        rw [← z, nD] at hxa
        cases hxa
      · rw [List.map_append]
        have fl0 : flatDA (ws.map pzD) = true := flatDA_of fun d hd => by
          obtain ⟨q, _, rfl⟩ := List.mem_map.mp hd
          simp [pzD, flatD, flatDA, flat_frd]
        refine (DqAll.fl (tupd_l hzD) up _ _ fl0 (DqAll.ex xt _ _ (DqAll.exb hxpG eb6 _ _ qs))).append (.cons ?_ .nil)
        refine Dq.fl (tupd_l hzD) up _ _ (by simp [pzD, flatD, flatDA, flat_frd]) ?_
        show Dq K p _ (.ref t) (.tuple [frd (frQ d'), frd (frQ d6)])
        rw [← frB_iff f5, ← frB_iff f6]
        exact .tup (SqT.of upd_same) (.cons qx6 (.cons qy6 .nil))
      · rcases List.mem_append.mp hz' with hz' | hz'
        · exact okw z hz'
        · rw [List.mem_singleton.mp hz']
          exact ⟨p5, p6, b5, b6⟩
      · rw [List.map_append, em, take_snoc hd', List.map_append]
        rfl
    · rintro G ⟨eb, hpG, zs, ws, hz, qs, okw, em⟩
      rw [xl, List.take_of_length_le (Nat.le_refl _)] at em
      have wl : ws.length = row.length := by
        have := congrArg List.length em
        rwa [List.length_map, List.length_map] at this
      refine ⟨D, zs, rfl, .inl ⟨SqL.of hz, fun t ft => ⟨by show 2 ≤ sizeLine; decide, fun t2 ft2 => ?_⟩⟩⟩
      have x1 := Ex.new (o := .tup zs) ft
      have x2 := Ex.new (o := .tup [v, .ref t]) ft2
      have okB : BxOk (frQ d, ws) := ⟨n1, b1.mono (by decide), by show 1 ≤ ws.length; omega, by show ws.length ≤ 3; omega, okw, by show (ws.map fun x => x.1).sum = 1; rw [em]; exact rs⟩
      refine k (.ref t2) (frQ d, ws) _ ((EB.trans eb).trans (Ex.b (x1.trans x2))) ((hpG.ex (x1.trans x2)).mono (by omega)) ?_ okB b1
      refine .tup (SqT.of upd_same) (.cons ?_ (.cons (.tup (SqT.of (x2 _ _ upd_same)) (DqAll.ex (x1.trans x2) _ _ qs)) .nil))
      rw [← frB_iff f1]
      exact Dq.ex (x1.trans x2) _ _ (Dq.exb hxp4 eb _ _ q1')
theorem ok__law_over_mark (T : Txt K mg) : FnOk P w K mg base CX0 3 T.d__law_over_mark.a T.d__law_over_mark.fd ["_law_box_here", "_law_mark"] (spOver K) := by
  refine T.d__law_over_mark.F.ok sc__law_over_mark (fun vs H Q E h => ?_) (fun cdv A outer s H vs Q E hr h => ?_)
  · obtain ⟨p, u, v, b, m, rfl, _⟩ := h
    rfl
  · obtain ⟨p, u, v, b, m, rfl, hu, ok, fm, kk⟩ := h
    refine ⟨_, (pss_cons (ps_set (i := 2) sc__law_over_mark.nd rfl (Or.inl rfl) (pe_tup (pa_cons pe_int (pa_cons pe_int pa_nil))))
      (pss_cons (ps_for PassesOwn.never rfl (pi_tup (pe_ix ix_tup (pv 0) pe_int (fun _ _ => rfl))) (pg_tup (by rfl) (pgs_cons (pg_name (i := 3) sc__law_over_mark.nd rfl (Or.inl rfl)) (pgs_cons (pg_name (i := 4) sc__law_over_mark.nd rfl (Or.inl rfl)) pgs_nil))) (pss_one (ps_if (pt_val (pe_call (ok__law_less T) (hr.mono (by decide)) (by rfl) T.d__law_less.g T.d__law_less.F.kp T.d__law_less.b .nil pass0 (pa_cons (pv 1) (pa_cons (pv 4) pa_nil)))) (pss_one (ps_set (i := 2) sc__law_over_mark.nd rfl (Or.inl rfl) (pe_call (ok__law_add T) (hr.mono (by decide)) (by rfl) T.d__law_add.g T.d__law_add.F.kp T.d__law_add.b .nil pass0 (pa_cons (pv 2) (pa_cons (pe_call (ok__law_mul T) (hr.mono (by decide)) (by rfl) T.d__law_mul.g T.d__law_mul.F.kp T.d__law_mul.b .nil pass0 (pa_cons (pv 3) (pa_cons (pe_call (ok__law_add T) (hr.mono (by decide)) (by rfl) T.d__law_add.g T.d__law_add.F.kp T.d__law_add.b .nil pass0 (pa_cons (pv 4) (pa_cons (pe_call (ok__law_mul T) (hr.mono (by decide)) (by rfl) T.d__law_mul.g T.d__law_mul.F.kp T.d__law_mul.b .nil pass0 (pa_cons (pe_tup (pa_cons (pe_un un_neg pe_int) (pa_cons pe_int pa_nil))) (pa_cons (pv 1) pa_nil))) pa_nil))) pa_nil))) pa_nil))))) pss_nil)))
      (pss_one (ps_ret (pv 2))))), ?_⟩
    obtain ⟨a1, x1, c1, ys, rfl, hS1, q1, hS2, hA2⟩ := bx_pair hu
    have yl : ys.length = b.2.length := by rw [hA2.len, List.length_map]
    have L3 := ok.l3
    refine n_seq ?_
    refine s_asgP (ep_01 (K := K)) fun z0 H1 H1e f0 => ?_
    dsimp only
    refine n_seq ?_
    refine ⟨_, rfl, a1, _, (1 : Nat), .ref c1, rfl, rfl, ex_t H1e hS1, atI_nat rfl, c1, rfl, ⟨ys, ex_t H1e hS2⟩, ?_⟩
    refine for_tup (K := K) (a := c1) (xs := ys) (fun j σ G => ∃ (z : V) (y3 y4 : Option V), σ = [some (.ref a1), some v, some z, y3, y4] ∧ Ex H G ∧ Fr K (1 + 83 * j) (gain (b.2.take j) m) z G) ⟨z0, none, none, rfl, H1e, f0⟩ (fun j σ G _ h => by
      obtain ⟨_, _, _, _, e, _⟩ := h
      exact ex_t e hS2) ?_ ?_
    · rintro j x σ G hx ⟨z, y3, y4, rfl, ex, fz⟩
      have jl : j < ys.length := (List.getElem?_eq_some_iff.mp hx).1
      obtain ⟨t, htt, qt⟩ := (DqAll.ex ex _ _ hA2).atG hx
      have okt := ok.pz t (List.mem_of_getElem? htt)
      obtain ⟨a3, u1, u2, rfl, hS3, p1, p2⟩ := qt.pair
      refine ⟨a3, _, rfl, hS3, rfl, _, _, rfl, _, _, rfl, rfl, ?_⟩
      dsimp only
      have g0 := gain_app m (b.2.take j) t
      rw [← take_snoc htt] at g0
      refine ⟨_, rfl, _, rfl, v, u2, 70, 4, _, _, rfl, fm.ex ex, p2.frq okt.vb, by omega, fun G1 e1 => ⟨_, rfl, ?_⟩⟩
      by_cases c : m < t.2
      · rw [decide_eq_true c]
        refine iteT ?_
        rw [if_pos c] at g0
        refine s_asgP (ep_2L (K := K) (b := 1 + 83 * j) (c := 82) (ep_var rfl (fz.ex e1)) (ep_2L (b := 4) (c := 77) (ep_var rfl ((p1.frq okt.qb).ex e1)) (ep_2L (b := 4) (c := 72) (ep_var rfl ((p2.frq okt.vb).ex e1)) (ep_2L (b := 1) (c := 70) (ep_m1 (K := K)) (ep_var rfl (fm.ex (ex.trans e1))) trivial (by decide) rfl) trivial (by decide) rfl) trivial (by decide) rfl) trivial (by omega) rfl) fun z' G2 e2 f2 => ?_
        refine ⟨z', _, _, rfl, ex.trans (e1.trans e2), ?_⟩
        rw [g0]
        have : gain (b.2.take j) m + t.1 * (t.2 + -1 * m) = gain (b.2.take j) m + t.1 * (t.2 - m) := by grind
        rw [← this]
        exact f2.mono (by omega)
      · rw [decide_eq_false c]
        refine iteF ?_
        rw [if_neg c] at g0
        refine n_next ?_
        refine ⟨z, _, _, rfl, ex.trans e1, ?_⟩
        rw [g0, show gain (b.2.take j) m + t.1 * 0 = gain (b.2.take j) m by grind]
        exact (fz.ex e1).mono (by omega)
    · rintro σ G ⟨z, y3, y4, rfl, ex, fz⟩
      rw [yl, List.take_length] at fz
      exact ⟨_, rfl, kk z G ex (fz.mono (by omega))⟩
end
/-! ### the law's step by the rule of reserves -/
def mvMD : Mv → PyData
  | .leave => leaveD
  | .open_ k => mvD k none
  | .take k => mvD k (some 0)
def spStep (K : PySem.W.Frag) : Sp := fun vs H Q _ => ∃ (p : Addr) (u : V) (lm c : Addr) (ms : List V) (B : List Bx) (zs : List Rat) (s : Seen), vs = [u, .ref lm, .ref c] ∧ Dq K p H u (bxsD B) ∧ H lm = some (.lst ms) ∧ AllFr K 70 H ms zs ∧ zs.length = B.length ∧ H c = some (.tup (s.map optV)) ∧ 1 ≤ B.length ∧ B.length ≤ 2 ∧ (∀ b ∈ B, BxOk b) ∧ SnOk B s ∧
  ∀ v mv H', Ex H H' → StepP B zs s mv → Dq K p H' v (mvMD mv) → Q v H'
/-- a comprehension over a range, with a test -/
theorem lc_rng {K : PySem.W.Frag} {p : Addr} {n : Nat} {out : Nat → PyData} {c : Nat → Bool} {g : TG} {tt : TT} {te : TE} {vs : List Nat} {σ : L2.St} {H1 : Hp} {D : Addr} {Qd : Hp → Prop}
    (nD : H1 D = none) (fl : ∀ k, k < n → flatD (out k) = true) (hl : n ≤ 900)
    (hs : ∀ k H (R : VK) (S : Hp → Prop), k < n → Ex H1 H → (c k = true → ∀ y H', Ex H H' → Dq K p H' y (out k) → R y H') → (c k = false → ∀ H', Ex H H' → S H') → g (.int (k : Nat)) (wipe σ vs) H fun σ2 H2 => wipe σ2 vs = wipe σ vs ∧ tt σ2 H2 fun b H3 => if b = true then te σ2 H3 R else S H3)
    (k : ∀ zs H, Ex H1 H → H D = some (.lst zs) → DqAll K p H zs (((List.range n).filter c).map out) → Qd H) :
    ∃ W : Nat → Nat → Hp → Prop, (∃ m, W 0 m (upd H1 D (.lst []))) ∧ ∀ i m H, W i m H →
      ((Itr 0 n).stop i H ∧ Qd H) ∨ ((Itr 0 n).go i H ∧ ∃ Nx : Hp → Prop, (∀ H', Nx H' → ∃ m', m' < m ∧ W (i + 1) m' H') ∧ ∀ x H', (Itr 0 n).yld i H x H' → g x (wipe σ vs) H' fun σ2 H2 => wipe σ2 vs = wipe σ vs ∧ tt σ2 H2 fun b H3 =>
        if b = true then te σ2 H3 fun y H4 => ∃ acc, H4 D = some (.lst acc) ∧ acc.length < sizeLine ∧ Nx (upd H4 D (.lst (acc ++ [y]))) else Nx H3) := by
  refine lc_it (walk_range (lo := 0) (n := n)) (fun i H => Ex H1 H ∧ ∃ zs, H D = some (.lst zs) ∧ DqAll K p H zs (((List.range i).filter c).map out)) ⟨Ex.new nD, [], upd_same, .nil⟩ (fun i H _ h => trivial) ?_ ?_
  · rintro i x H H' hi ⟨ex, zs, hz, qs⟩ ⟨rfl, hx⟩
    replace hx : x = .int (i : Nat) := by
      rw [hx]
      show V.int (0 + (i : Int)) = _
      rw [Int.zero_add]
    subst hx
    have zl : zs.length ≤ 900 := by
      rw [qs.len, List.length_map]
      refine Nat.le_trans (List.length_filter_le _ _) ?_
      rw [List.length_range]
      omega
    refine hs i H' _ _ hi ex (fun hc y H2 e2 qy => ?_) (fun hc H2 e2 => ?_)
    · have hz2 := e2 _ _ hz
      refine ⟨zs, hz2, small1000 (by omega), Ex.mut (ex.trans e2) nD, zs ++ [y], upd_same, ?_⟩
      rw [List.range_succ, List.filter_append, List.map_append]
      have e1 : List.filter c [i] = [i] := by simp [hc]
      rw [e1]
      have up : ExB D H2 (upd H2 D (.lst (zs ++ [y]))) := ExB.upd (ExB.refl D H2)
      have f1 : flatDA (((List.range i).filter c).map out) = true := flatDA_of fun d hd => by
        obtain ⟨t', ht', rfl⟩ := List.mem_map.mp hd
        exact fl t' (by have := List.mem_range.mp (List.mem_filter.mp ht').1; omega)
      exact (DqAll.fl (tupd_l hz2) up _ _ f1 (DqAll.ex e2 _ _ qs)).append (.cons (Dq.fl (tupd_l hz2) up _ _ (fl i hi) qy) .nil)
    · refine ⟨ex.trans e2, zs, e2 _ _ hz, ?_⟩
      rw [List.range_succ, List.filter_append]
      have e1 : List.filter c [i] = [] := by simp [hc]
      rw [e1, List.append_nil]
      exact DqAll.ex e2 _ _ qs
  · rintro H ⟨ex, zs, hz, qs⟩
    exact k zs H ex hz qs
def isSm (s : Seen) (k : Nat) : Bool := match s[k]? with
  | some (some _) => true
  | _ => false
def valS (B : List Bx) (s : Seen) (k : Nat) : Rat := match B[k]?, s[k]? with
  | some b, some (some j) => valX b j
  | _, _ => 0
def wthS (B : List Bx) (s : Seen) : List Rat := 0 :: ((List.range B.length).filter (isSm s)).map (valS B s)
theorem most_of {B : List Bx} {s : Seen} {q : Rat} (so : SnOk B s) (h : q ∈ wthS B s) (hm : ∀ r ∈ wthS B s, r ≤ q) : MostS B s q := by
  refine ⟨hm 0 List.mem_cons_self, fun k b j hb hs => ?_, ?_⟩
  · refine hm _ (List.mem_cons_of_mem _ (List.mem_map.mpr ⟨k, List.mem_filter.mpr ⟨List.mem_range.mpr (List.getElem?_eq_some_iff.mp hb).1, ?_⟩, ?_⟩))
    · unfold isSm
      rw [hs]
    · unfold valS
      rw [hb, hs]
  · rcases List.mem_cons.mp h with rfl | h
    · exact .inl rfl
    · obtain ⟨k, hk, e⟩ := List.mem_map.mp h
      obtain ⟨h1, h2⟩ := List.mem_filter.mp hk
      unfold isSm at h2
      cases hs : s[k]? with
      | none => rw [hs] at h2; cases h2
      | some o =>
        cases o with
        | none => rw [hs] at h2; cases h2
        | some j =>
          obtain ⟨b, hb⟩ : ∃ b, B[k]? = some b := ⟨_, List.getElem?_eq_getElem (List.mem_range.mp h1)⟩
          unfold valS at e
          rw [hb, hs] at e
          exact .inr ⟨k, b, j, hb, hs, e⟩
def isNo (s : Seen) (k : Nat) : Bool := match s[k]? with
  | some none => true
  | _ => false
/-- what can be opened above m -/
def opnK (B : List Bx) (zs : List Rat) (s : Seen) (m : Rat) : List Nat := (List.range B.length).filter fun k => isNo s k && decide (m < zs.getD k 0)
theorem mem_opnK {B : List Bx} {zs : List Rat} {s : Seen} {m : Rat} {k : Nat} (zl : zs.length = B.length) (so : SnOk B s) : k ∈ opnK B zs s m ↔ s[k]? = some none ∧ ∃ z, zs[k]? = some z ∧ m < z := by
  unfold opnK
  rw [List.mem_filter, List.mem_range, Bool.and_eq_true, decide_eq_true_iff]
  constructor
  · rintro ⟨h1, h2, h3⟩
    have hz := List.getElem?_eq_getElem (l := zs) (i := k) (by omega)
    rw [List.getD_eq_getElem?_getD, hz] at h3
    refine ⟨?_, _, hz, h3⟩
    unfold isNo at h2
    cases hs : s[k]? with
    | none => rw [hs] at h2; cases h2
    | some o =>
      cases o with
      | none => rfl
      | some j => rw [hs] at h2; cases h2
  · rintro ⟨h1, z, hz, h3⟩
    refine ⟨by rw [← zl]; exact (List.getElem?_eq_some_iff.mp hz).1, ?_, ?_⟩
    · unfold isNo
      rw [h1]
    · rw [List.getD_eq_getElem?_getD, hz]
      exact h3
section
variable {K : PySem.W.Frag} {p : Addr} {σ : L2.St} {H : Hp} {u : V} {c lm : Addr} {B : List Bx} {s : Seen} {ms : List V} {zs : List Rat} {k : Nat}
theorem ev_seen {i j : Nat} {o : Option Nat} (hi : σ[i]? = some (some (.ref c))) (hc : H c = some (.tup (s.map optV))) (hj : σ[j]? = some (some (.int (k : Nat)))) (ho : s[k]? = some o) : Ev (tOp (rIxT K) (tVar i) (tVar j)) σ H (optV o) := fun H1 e Q kk =>
  ⟨_, hi, _, hj, c, _, (k : Int), _, rfl, rfl, SqT.of (e _ _ hc), atI_nat (by rw [List.getElem?_map, ho]; rfl), kk H1 (Ex.refl _)⟩
theorem ep_mark {i j : Nat} {z : Rat} (hi : σ[i]? = some (some (.ref lm))) (hm : H lm = some (.lst ms)) (fm : AllFr K 70 H ms zs) (hj : σ[j]? = some (some (.int (k : Nat)))) (hz : zs[k]? = some z) : EvP (tOp (rIxL K) (tVar i) (tVar j)) σ H (Fr K 70 z) := fun H1 e Q kk => by
  have kl := (List.getElem?_eq_some_iff.mp hz).1
  have hx := List.getElem?_eq_getElem (l := ms) (i := k) (by rw [fm.1]; exact kl)
  exact ⟨_, hi, _, hj, lm, ms, (k : Int), _, rfl, rfl, SqL.of (e _ _ hm), atI_nat hx, kk _ H1 (Ex.refl _) ((fm.2 _ _ _ hx hz).ex e)⟩
theorem ep_val {i j m : Nat} {b : Bx} {n : Nat} (hi : σ[i]? = some (some u)) (hu : Dq K p H u (bxsD B)) (hm : σ[m]? = some (some (.ref c))) (hc : H c = some (.tup (s.map optV))) (hj : σ[j]? = some (some (.int (k : Nat)))) (hb : B[k]? = some b) (ho : s[k]? = some (some n)) (nl : n < b.2.length) (ok : BxOk b) :
    EvP (tOp (rIxT K) (tOp (rIxT K) (tOp (rIxT K) (tOp (rIxT K) (tVar i) (tVar j)) (tC (.int 1))) (tOp (rIxT K) (tVar m) (tVar j))) (tC (.int 1))) σ H (Fr K 4 (valX b n)) := fun H1 e Q kk => by
  have hu1 : Dq K p H1 u (.tuple (B.map bxD)) := Dq.ex e _ _ hu
  obtain ⟨a, xs, rfl, hS, hA⟩ := hu1.seq
  obtain ⟨x, hx, qx⟩ := hA.get (j := k) (dj := bxD b) (by rw [List.getElem?_map, hb]; rfl)
  obtain ⟨a1, x1, c1, ys, rfl, hS1, q1, hS2, hA2⟩ := bx_pair qx
  obtain ⟨pz, hpz⟩ : ∃ pz, b.2[n]? = some pz := ⟨_, List.getElem?_eq_getElem nl⟩
  obtain ⟨y, hy, qy⟩ := hA2.get (j := n) (dj := pzD pz) (by rw [List.getElem?_map, hpz]; rfl)
  obtain ⟨a2, u1, u2, rfl, hS3, p1, p2⟩ := Dq.pair qy
  refine ⟨_, hi, _, hj, a, xs, (k : Int), _, rfl, rfl, hS, atI_nat hx, a1, _, (1 : Nat), .ref c1, rfl, rfl, hS1, atI_nat rfl, _, hm, _, hj, c, _, (k : Int), .int (n : Nat), rfl, rfl, SqT.of (e _ _ hc), atI_nat (by rw [List.getElem?_map, ho]; rfl), c1, ys, (n : Int), _, rfl, rfl, hS2, atI_nat hy, a2, _, (1 : Nat), u2, rfl, rfl, hS3, atI_nat rfl, kk u2 H1 (Ex.refl _) ?_⟩
  rw [val_at hpz]
  exact p2.frq (ok.pz pz (List.mem_of_getElem? hpz)).vb
end
theorem hd_nats : ∀ ns : List Nat, PyData.hasDictAll (ns.map fun k => PyData.int (k : Nat)) = false
  | [] => rfl
  | n :: ns => by
    rw [List.map_cons]
    simp only [PyData.hasDictAll, PyData.hasDict, Bool.false_or]
    exact hd_nats ns
section
variable {P : Program} {w : World} {K : PySem.W.Frag} {mg : Str → Option Value} {base : Heap}
theorem ok__law_step (T : Txt K mg) : FnOk P w K mg base CX0 3 T.d__law_step.a T.d__law_step.fd ["_law_boxes", "_law_marks", "_law_seen"] (spStep K) := by
  refine T.d__law_step.F.ok sc__law_step (fun vs H Q E h => ?_) (fun cdv A outer s H vs Q E hr h => ?_)
  · obtain ⟨p, u, lm, c, ms, B, zs, s, rfl, _⟩ := h
    rfl
  · obtain ⟨p, u, lm, c, ms, B, zs, sn, rfl, hu, hm, fm, zl, hc, l1, l2, ok, so, kk⟩ := h
    refine ⟨_, (pss_cons (ps_set (i := 3) sc__law_step.nd rfl (Or.inl rfl) (pe_op op_cat (pe_lst (pa_cons (pe_tup (pa_cons pe_int (pa_cons pe_int pa_nil))) pa_nil)) (pe_lc (own := [("_law_k", 7)]) (g := gName 7) (te := tOp (rIxT K) (tOp (rIxT K) (tOp (rIxT K) (tOp (rIxT K) (tVar 0) (tVar 7)) (tC (.int 1))) (tOp (rIxT K) (tVar 2) (tVar 7))) (tC (.int 1))) (tt := tTest (tOp (fun x y H Q => y = V.non ∧ Q (V.bl (!decide (x = V.non))) H) (tOp (rIxT K) (tVar 2) (tVar 7)) (tC V.non))) rfl sc__law_step.nd (pi_range1 (by rfl) T.n_range (pa_cons (pe_callB call_len_seq (by rfl) T.n_len (by decide +kernel) (pa_cons (pv 0) pa_nil)) pa_nil)) (blkOk_by (own := [("_law_k", 7)]) (N := n__law_step) (sc := defScope s__law_step) (by decide +kernel)) (fun _ _ _ _ _ => pg_name (i := 7) sc__law_step.nd rfl (Or.inl rfl)) (fun _ _ _ _ _ => pts_one (pt_cmpR op_notN (pe_ix ix_tup (pv 2) (pv 7) (fun _ _ => rfl)) pe_non (nomark _))) (fun _ _ _ _ _ => (pe_ix ix_tup (pe_ix ix_tup (pe_ix ix_tup (pe_ix ix_tup (pv 0) (pv 7) (fun _ _ => rfl)) pe_int (fun _ _ => rfl)) (pe_ix ix_tup (pv 2) (pv 7) (fun _ _ => rfl)) (fun _ _ => rfl)) pe_int (fun _ _ => rfl))))))
      (pss_cons (ps_set (i := 4) sc__law_step.nd rfl (Or.inr rfl) (pe_call (ok__law_most T) (hr.mono (by decide)) (by rfl) T.d__law_most.g T.d__law_most.F.kp T.d__law_most.b .nil pass0 (pa_cons (pv 3) pa_nil)))
      (pss_cons (ps_setLc (i := 5) (own := [("_law_k", 7)]) (g := gName 7) (tt := tAnd (tTest (tOp (fun x y H Q => y = V.non ∧ Q (V.bl (decide (x = V.non))) H) (tOp (rIxT K) (tVar 2) (tVar 7)) (tC V.non))) (tB (tCall (spLt K) [] E0 (tCons (tVar 4) (tCons (tOp (rIxL K) (tVar 1) (tVar 7)) tNil))))) rfl sc__law_step.nd rfl rfl (sw_true rfl rfl rfl (by decide +kernel)) (pi_range1 (by rfl) T.n_range (pa_cons (pe_callB call_len_seq (by rfl) T.n_len (by decide +kernel) (pa_cons (pv 0) pa_nil)) pa_nil)) (blkOk_by (own := [("_law_k", 7)]) (N := n__law_step) (sc := defScope s__law_step) (by decide +kernel)) (fun _ _ _ _ _ => pg_name (i := 7) sc__law_step.nd rfl (Or.inl rfl)) (fun _ _ _ _ _ => pts_one (PW.pt (pw_and (pt_cmpR op_isN (pe_ix ix_tup (pv 2) (pv 7) (fun _ _ => rfl)) pe_non (nomark _)) (pw_and1 (pt_val (pe_call (ok__law_less T) (hr.mono (by decide)) (by rfl) T.d__law_less.g T.d__law_less.F.kp T.d__law_less.b .nil pass0 (pa_cons (pv 4) (pa_cons (pe_ix ix_list (pv 1) (pv 7) (fun _ _ => rfl)) pa_nil)))))))) (fun _ _ _ _ _ => (pv 7)))
      (pss_cons (ps_if (pt_cmpR (op_neD hr.units) (pv 5) (pe_lst pa_nil) (nomark _)) (pss_cons (ps_set (i := 6) sc__law_step.nd rfl (Or.inr rfl) (pe_call (ok__law_most T) (hr.mono (by decide)) (by rfl) T.d__law_most.g T.d__law_most.F.kp T.d__law_most.b .nil pass0 (pa_cons (pe_lc (own := [("_law_k", 7)]) (g := gName 7) (te := tOp (rIxL K) (tVar 1) (tVar 7)) (tt := tYes) rfl sc__law_step.nd (pi_list (pv 5)) (blkOk_by (own := [("_law_k", 7)]) (N := n__law_step) (sc := defScope s__law_step) (by decide +kernel)) (fun _ _ _ _ _ => pg_name (i := 7) sc__law_step.nd rfl (Or.inl rfl)) (fun _ _ _ _ _ => pts_nil) (fun _ _ _ _ _ => (pe_ix ix_list (pv 1) (pv 7) (fun _ _ => rfl)))) pa_nil)))
      (pss_one (ps_ret (pe_tup (pa_cons pe_str (pa_cons (pe_ix ix_list (pe_lc (own := [("_law_k", 7)]) (g := gName 7) (tt := tTest (tOp (rEqD K) (tOp (rIxL K) (tVar 1) (tVar 7)) (tVar 6))) rfl sc__law_step.nd (pi_list (pv 5)) (blkOk_by (own := [("_law_k", 7)]) (N := n__law_step) (sc := defScope s__law_step) (by decide +kernel)) (fun _ _ _ _ _ => pg_name (i := 7) sc__law_step.nd rfl (Or.inl rfl)) (fun _ _ _ _ _ => pts_one (pt_cmpR (op_eqD hr.units) (pe_ix ix_list (pv 1) (pv 7) (fun _ _ => rfl)) (pv 6) (nomark _))) (fun _ _ _ _ _ => (pv 7))) pe_int (fun _ _ => rfl)) pa_nil)))))) pss_nil)
      (pss_cons (ps_for PassesOwn.never rfl (pi_range1 (by rfl) T.n_range (pa_cons (pe_callB call_len_seq (by rfl) T.n_len (by decide +kernel) (pa_cons (pv 0) pa_nil)) pa_nil)) (pg_name (i := 7) sc__law_step.nd rfl (Or.inl rfl)) (pss_one (ps_if (PW.pt (pw_and (pt_cmpR op_notN (pe_ix ix_tup (pv 2) (pv 7) (fun _ _ => rfl)) pe_non (nomark _)) (pw_and1 (pt_cmpR (op_eqD hr.units) (pe_ix ix_tup (pe_ix ix_tup (pe_ix ix_tup (pe_ix ix_tup (pv 0) (pv 7) (fun _ _ => rfl)) pe_int (fun _ _ => rfl)) (pe_ix ix_tup (pv 2) (pv 7) (fun _ _ => rfl)) (fun _ _ => rfl)) pe_int (fun _ _ => rfl)) (pv 4) (nomark _))))) (pss_one (ps_ret (pe_tup (pa_cons pe_str (pa_cons (pv 7) pa_nil))))) pss_nil)))
      (pss_one (ps_ret (pe_tup (pa_cons pe_str pa_nil))))))))), ?_⟩
    refine n_seq ?_
    have hu0 : Dq K p H u (.tuple (B.map bxD)) := hu
    obtain ⟨a, xs, rfl, hS, hA⟩ := hu0.seq
    have xl : xs.length = B.length := by rw [hA.len, List.length_map]
    have hn : ((xs.length : Nat) : Int).toNat = B.length := by omega
    -- the worths seen
    refine ⟨by show 2 ≤ sizeLine; decide, fun t0 ft0 => ⟨by show 1 ≤ sizeLine; decide, fun l0 fl0 => ?_⟩⟩
    have x0 := Ex.new (o := .tup [V.int 0, V.int 1]) ft0
    have x1 := Ex.new (o := .lst [V.ref t0]) fl0
    have e1 := x0.trans x1
    have q0 : Dq K p (upd (upd H t0 (.tup [V.int 0, V.int 1])) l0 (.lst [V.ref t0])) (.ref t0) (frd 0) := .tup (SqT.of (x1 _ _ upd_same)) (.cons (.int 0) (.cons (.int 1) .nil))
    have hl0 : (upd (upd H t0 (.tup [V.int 0, V.int 1])) l0 (.lst [V.ref t0])) l0 = some (.lst [V.ref t0]) := upd_same
    generalize upd (upd H t0 (.tup [V.int 0, V.int 1])) l0 (.lst [V.ref t0]) = G0 at e1 hl0 q0
    clear x0 x1 ft0 fl0
    refine ⟨_, rfl, a, xs, rfl, .inr (ex_t e1 hS), (xs.length : Int), rfl, by omega, by omega, fun D nD => ?_⟩
    rw [hn]
    refine lc_rng (K := K) (p := p) (n := B.length) (out := fun k => frd (valS B sn k)) (c := isSm sn) nD (fun k _ => flat_frd _) (by omega) (fun k G R S hk ex y n => ?_) fun ws G1 ex1 hw qw => ?_
    · refine ⟨rfl, ?_⟩
      obtain ⟨o, ho⟩ : ∃ o, sn[k]? = some o := ⟨_, List.getElem?_eq_getElem (by rw [so.l]; exact hk)⟩
      have E := e1.trans ex
      obtain ⟨b, hb⟩ : ∃ b, B[k]? = some b := ⟨_, List.getElem?_eq_getElem hk⟩
      refine (et_test (b := isSm sn k) (ev_is (ev_op (ev_seen (K := K) (i := 2) (j := 7) (k := k) rfl (E _ _ hc) rfl ho) ev_c fun H1 e Q q => ⟨rfl, q H1 (Ex.refl _)⟩) (by unfold isSm; rw [ho]; cases o <;> rfl))) G (Ex.refl _) _ fun G2 e2 => ?_
      cases o with
      | none =>
        have cf : isSm sn k = false := by unfold isSm; rw [ho]
        rw [cf]
        refine iteF ?_
        exact n cf G2 e2
      | some j =>
        have cf : isSm sn k = true := by unfold isSm; rw [ho]
        rw [cf]
        refine iteT ?_
        have vv : valS B sn k = valX b j := by unfold valS; rw [hb, ho]
        refine (ep_val (K := K) (p := p) (i := 0) (j := 7) (m := 2) rfl (Dq.ex (E.trans e2) _ _ hu) rfl ((E.trans e2) _ _ hc) rfl hb ho (so.lt k j b ho hb) (ok b (List.mem_of_getElem? hb))) G2 (Ex.refl _) _ fun z G3 e3 fz => ?_
        refine y cf z G3 (e2.trans e3) ?_
        rw [vv]
        exact fz.dq
    have hl1 := ex1 _ _ hl0
    have q1 := Dq.ex ex1 _ _ q0
    refine ⟨l0, D, _, _, rfl, rfl, hl1, hw, ?_, fun l3 fl3 => ?_⟩
    · have := qw.len
      rw [List.length_map] at this
      have h2 := List.length_filter_le (isSm sn) (List.range B.length)
      rw [List.length_range] at h2
      exact Nat.le_of_lt (small1000 (by show 1 + ws.length ≤ 1000; omega))
    have x3 := Ex.new (o := .lst ([V.ref t0] ++ ws)) fl3
    have qW : DqAll K p (upd G1 l3 (.lst ([V.ref t0] ++ ws))) ([V.ref t0] ++ ws) ((wthS B sn).map frd) := by
      refine DqAll.ex x3 _ _ (.cons q1 ?_)
      rw [show ((List.range B.length).filter (isSm sn)).map (fun k => frd (valS B sn k)) = (((List.range B.length).filter (isSm sn)).map (valS B sn)).map frd by rw [List.map_map]; rfl] at qw
      exact qw
    have bW : ∀ q ∈ wthS B sn, Bd 4 q := fun q hq => by
      rcases List.mem_cons.mp hq with rfl | hq
      · exact ⟨by decide, by decide⟩
      · obtain ⟨k, hk, rfl⟩ := List.mem_map.mp hq
        unfold valS
        split
        · rename_i b j hb hs
          unfold valX
          split
          · rename_i x hx
            exact ((ok b (List.mem_of_getElem? hb)).pz x (List.mem_of_getElem? hx)).vb
          · exact ⟨by decide, by decide⟩
        · exact ⟨by decide, by decide⟩
    have h3 : (upd G1 l3 (.lst ([V.ref t0] ++ ws))) l3 = some (.lst ([V.ref t0] ++ ws)) := upd_same
    have E3 := e1.trans (ex1.trans x3)
    generalize upd G1 l3 (.lst ([V.ref t0] ++ ws)) = G3 at E3 h3 qW
    refine n_name ?_
    dsimp only
    -- the most
    refine n_seq ?_
    refine ⟨_, rfl, l3, _, wthS B sn, 4, rfl, SqL.of h3, AllFr.of qW bW, (fun z => nomatch z), by decide, fun z q G4 e4 fz hq hmx => ?_⟩
    have M := most_of so hq hmx
    have E4 := E3.trans e4
    refine n_name ?_
    dsimp only
    -- what can be opened
    refine n_seq ?_
    refine ⟨_, rfl, a, xs, rfl, .inr (ex_t E4 hS), (xs.length : Int), rfl, by omega, by omega, fun D2 nD2 => ?_⟩
    rw [hn]
    refine lc_rng (K := K) (p := p) (n := B.length) (out := fun k => .int (k : Nat)) (c := fun k => isNo sn k && decide (q < zs.getD k 0)) nD2 (fun k _ => rfl) (by omega) (fun k G R S hk ex y n => ?_) fun os G5 ex5 ho5 qo5 => ?_
    · refine ⟨rfl, ?_⟩
      obtain ⟨o, ho⟩ : ∃ o, sn[k]? = some o := ⟨_, List.getElem?_eq_getElem (by rw [so.l]; exact hk)⟩
      obtain ⟨zk, hzk⟩ : ∃ zk, zs[k]? = some zk := ⟨_, List.getElem?_eq_getElem (by rw [zl]; exact hk)⟩
      have E := E4.trans ex
      have gd : zs.getD k 0 = zk := by rw [List.getD_eq_getElem?_getD, hzk]; rfl
      refine (et_and (a := isNo sn k) (b := decide (q < zs.getD k 0)) (et_test (ev_is (ev_op (ev_seen (K := K) (i := 2) (j := 7) (k := k) rfl (E _ _ hc) rfl ho) ev_c fun H1 e Q q => ⟨rfl, q H1 (Ex.refl _)⟩) (by unfold isNo; rw [ho]; cases o <;> rfl))) fun _ => et_B fun H1 e Q kk => ?_) G (Ex.refl _) _ fun G2 e2 => ?_
      · refine ⟨_, rfl, (ep_mark (K := K) (i := 1) (j := 7) (k := k) rfl (E _ _ hm) ⟨fm.1, fun i x q hx hq => (fm.2 i x q hx hq).ex E⟩ rfl hzk) H1 e _ fun mz H2 e2 fmz => ?_⟩
        refine ⟨z, mz, 4, 70, _, _, rfl, fz.ex (ex.trans (e.trans e2)), fmz, by decide, fun H3 e3 => ?_⟩
        have := kk H3 (e2.trans e3)
        rw [gd] at this
        exact this
      · cases cf : (isNo sn k && decide (q < zs.getD k 0)) with
        | true =>
          refine iteT ?_
          exact ⟨_, rfl, y cf _ _ e2 (.int _)⟩
        | false =>
          refine iteF ?_
          exact n cf G2 e2
    replace qo5 : DqAll K p G5 os ((opnK B zs sn q).map fun k => PyData.int (k : Nat)) := qo5
    have E5 := E4.trans ex5
    refine n_name ?_
    dsimp only
    have opl : (opnK B zs sn q).length ≤ 2 := by
      unfold opnK
      refine Nat.le_trans (List.length_filter_le _ _) ?_
      rw [List.length_range]
      exact l2
    have mo := fun {k : Nat} => mem_opnK (k := k) (m := q) zl so
    refine n_seq ?_
    have isI : ∀ {G : Hp}, Ex G5 G → Dp K G (.ref D2) (.list ((opnK B zs sn q).map fun k => PyData.int (k : Nat))) := fun {G} e => .lst (SqL.of (e _ _ ho5)) (DqAll.dp (p := p) _ _ (hd_nats _) (DqAll.ex e _ _ qo5))
    have shI : SeqAt.shaped (.list ((opnK B zs sn q).map fun k => PyData.int (k : Nat))) = true := by
      have := sh_ints ((opnK B zs sn q).map fun (k : Nat) => (k : Int))
      rwa [List.map_map] at this
    refine s_if (b := !PyData.eqv (.list ((opnK B zs sn q).map fun k => PyData.int (k : Nat))) (.list [])) (fun H1 e Q kk => ⟨_, rfl, by show 0 ≤ sizeLine; decide, fun t ft => ⟨_, _, isI (e.trans (Ex.new ft)), .lst (SqL.of upd_same) .nil, shI, rfl, _, rfl, kk _ (Ex.new ft)⟩⟩) (fun hb G6 e6 => ?_) (fun hb G6 e6 => ?_)
    · have ne : opnK B zs sn q ≠ [] := by
        intro z
        rw [z] at hb
        revert hb
        decide +kernel
      have ho6 := e6 _ _ ho5
      have qo6 := DqAll.ex e6 _ _ qo5
      have E6 := E5.trans e6
      have zat : ∀ k ∈ opnK B zs sn q, zs[k]? = some (zs.getD k 0) := fun k hk => by
        obtain ⟨_, z, hz, _⟩ := mo.mp hk
        rw [List.getD_eq_getElem?_getD, hz]
        rfl
      have fmm : ∀ {G : Hp}, Ex H G → AllFr K 70 G ms zs := fun e => ⟨fm.1, fun i x q hx hq => (fm.2 i x q hx hq).ex e⟩
      refine n_seq ?_
      refine ⟨_, rfl, D2, rfl, ⟨os, SqL.of ho6⟩, fun D3 nD3 => ?_⟩
      refine lc_data (rows := opnK B zs sn q) (rd := fun k => .int (k : Nat)) (out := fun k => frd (zs.getD k 0)) (c := fun _ => true) walk_list (fun H e => SqL.of (e _ _ ho6)) nD3 qo6 (fun x _ => flat_frd _) (by omega) (fun k v G R S hx ex3 qv y n => ?_) fun ws2 G7 ex7 hw7 qw7 => ?_
      · cases qv
        refine ⟨rfl, ?_⟩
        refine yes_of ?_
        rw [if_pos rfl]
        exact (ep_mark (K := K) (i := 1) (j := 7) (k := k) rfl ((E6.trans ex3) _ _ hm) (fmm (E6.trans ex3)) rfl (zat k hx)) G (Ex.refl _) _ fun mz H2 e2 fmz => y rfl mz H2 e2 fmz.dq
      have hfr : List.filter (fun _ => true) (opnK B zs sn q) = opnK B zs sn q := List.filter_eq_self.mpr fun _ _ => rfl
      rw [hfr, show (opnK B zs sn q).map (fun k => frd (zs.getD k 0)) = ((opnK B zs sn q).map fun k => zs.getD k 0).map frd by rw [List.map_map]; rfl] at qw7
      have bz : ∀ r ∈ (opnK B zs sn q).map (fun k => zs.getD k 0), Bd 70 r := fun r hr => by
        obtain ⟨k, hk, rfl⟩ := List.mem_map.mp hr
        have hz := zat k hk
        have hx := List.getElem?_eq_getElem (l := ms) (i := k) (by rw [fm.1]; exact (List.getElem?_eq_some_iff.mp hz).1)
        exact (fm.2 _ _ _ hx hz).bd
      refine ⟨D3, ws2, _, 70, rfl, SqL.of hw7, AllFr.of qw7 bz, (fun z => ne (List.map_eq_nil_iff.mp z)), by decide, fun tz tq G8 e8 ft htq hmt => ?_⟩
      refine n_name ?_
      dsimp only
      have E8 := E6.trans (ex7.trans e8)
      have ho8 := (ex7.trans e8) _ _ ho6
      have qo8 := DqAll.ex (ex7.trans e8) _ _ qo6
      refine ⟨_, rfl, D2, rfl, ⟨os, SqL.of ho8⟩, fun D4 nD4 => ?_⟩
      refine lc_data (rows := opnK B zs sn q) (rd := fun k => .int (k : Nat)) (out := fun k => .int (k : Nat)) (c := fun k => decide (zs.getD k 0 = tq)) walk_list (fun H e => SqL.of (e _ _ ho8)) nD4 qo8 (fun x _ => rfl) (by omega) (fun k v G R S hx ex3 qv y n => ?_) fun ws3 G9 ex9 hw9 qw9 => ?_
      · cases qv
        refine ⟨rfl, ?_⟩
        refine (et_test (ev_eqD (K := K) (ep_mark (K := K) (i := 1) (j := 7) (k := k) rfl ((E8.trans ex3) _ _ hm) (fmm (E8.trans ex3)) rfl (zat k hx)) (ep_var rfl (ft.ex ex3)))) G (Ex.refl _) _ fun G2 e2 => ?_
        by_cases c : zs.getD k 0 = tq
        · rw [decide_eq_true c]
          refine iteT ?_
          exact ⟨_, rfl, y (decide_eq_true c) _ _ e2 (.int _)⟩
        · rw [decide_eq_false c]
          refine iteF ?_
          exact n (decide_eq_false c) _ e2
      obtain ⟨k1, hk1, ek1⟩ := List.mem_map.mp htq
      obtain ⟨k0, r0, e0⟩ : ∃ k0 r0, (opnK B zs sn q).filter (fun k => decide (zs.getD k 0 = tq)) = k0 :: r0 := by
        cases h : (opnK B zs sn q).filter (fun k => decide (zs.getD k 0 = tq)) with
        | nil =>
          have : k1 ∈ (opnK B zs sn q).filter (fun k => decide (zs.getD k 0 = tq)) := List.mem_filter.mpr ⟨hk1, decide_eq_true ek1⟩
          rw [h] at this
          cases this
        | cons k0 r0 => exact ⟨k0, r0, rfl⟩
      have m0 : k0 ∈ (opnK B zs sn q).filter (fun k => decide (zs.getD k 0 = tq)) := by rw [e0]; exact List.mem_cons_self
      obtain ⟨m1, m2⟩ := List.mem_filter.mp m0
      have m2' := of_decide_eq_true m2
      rw [e0] at qw9
      obtain ⟨x9, hx9, qx9⟩ := qw9.get (j := 0) (dj := .int (k0 : Nat)) rfl
      cases qx9
      obtain ⟨s0, z0, hz0, lt0⟩ := mo.mp m1
      have z0e : z0 = tq := by
        have := zat k0 m1
        rw [hz0] at this
        rw [← m2']
        exact Option.some.inj this
      subst z0e
      refine ⟨D4, ws3, (0 : Nat), _, rfl, rfl, SqL.of hw9, atI_nat hx9, by show 2 ≤ sizeLine; decide, fun t9 ft9 => ?_⟩
      have x9' := Ex.new (o := .tup [V.str "open", V.int (k0 : Nat)]) ft9
      refine kk (.ref t9) (.open_ k0) _ (E8.trans (ex9.trans x9')) (.op M s0 hz0 lt0 fun i y hi hy ly => ?_) (.tup (SqT.of upd_same) (.cons (.str _) (.cons (.int _) .nil)))
      have mi := mo.mpr ⟨hi, y, hy, ly⟩
      refine hmt y (List.mem_map.mpr ⟨i, mi, ?_⟩)
      have := zat i mi
      rw [hy] at this
      exact (Option.some.inj this).symm
    · have nil : opnK B zs sn q = [] := by
        cases h : opnK B zs sn q with
        | nil => rfl
        | cons k r =>
          rw [h] at hb
          simp [PyData.eqv, PyData.eqvAll] at hb
      have no : ∀ (i : Nat) (y : Rat), sn[i]? = some none → zs[i]? = some y → ¬ q < y := fun i y hi hy ly => by
        have := mo.mpr ⟨hi, y, hy, ly⟩
        rw [nil] at this
        cases this
      have E6 := E5.trans e6
      refine n_next ?_
      dsimp only
      refine n_seq ?_
      refine ⟨_, rfl, a, xs, rfl, .inr (ex_t E6 hS), (xs.length : Int), rfl, by omega, by omega, ?_⟩
      rw [hn]
      refine for_range (lo := 0) (n := B.length) (fun j σ G => (∃ y6 y7, σ = [some (.ref a), some (.ref lm), some (.ref c), some (.ref l3), some z, some (.ref D2), y6, y7]) ∧ Ex G6 G ∧ ∀ i m b, i < j → sn[i]? = some (some m) → B[i]? = some b → valX b m ≠ q) ⟨⟨none, none, rfl⟩, Ex.refl _, fun i m b hi => absurd hi (by omega)⟩ ?_ ?_
      · rintro j σ G hj ⟨⟨y6, y7, rfl⟩, ex, bad⟩
        rw [Int.zero_add]
        refine n_name ?_
        dsimp only
        have E7 := E6.trans ex
        obtain ⟨o, ho⟩ : ∃ o, sn[j]? = some o := ⟨_, List.getElem?_eq_getElem (by rw [so.l]; exact hj)⟩
        obtain ⟨b, hb⟩ : ∃ b, B[j]? = some b := ⟨_, List.getElem?_eq_getElem hj⟩
        have nx : (∀ m, o = some m → valX b m ≠ q) → ∀ i m b, i < j + 1 → sn[i]? = some (some m) → B[i]? = some b → valX b m ≠ q := fun h i m b' hi hs hb' => by
          by_cases c : i = j
          · subst c
            rw [ho] at hs
            rw [hb] at hb'
            cases hs
            cases hb'
            exact h m rfl
          · exact bad i m b' (by omega) hs hb'
        cases ho' : o with
        | none =>
          refine s_skip (et_is (et_and (a := false) (b := true) (et_test (ev_is (ev_op (ev_seen (K := K) (i := 2) (j := 7) (k := j) rfl (E7 _ _ hc) rfl ho) ev_c fun H1 e Q q => ⟨rfl, q H1 (Ex.refl _)⟩) (by rw [ho']; rfl))) fun z => nomatch z) rfl) fun G2 e2 => ?_
          exact ⟨⟨_, _, rfl⟩, ex.trans e2, nx (fun m hm' => by rw [ho'] at hm'; cases hm')⟩
        | some m =>
          rw [ho'] at ho
          have okb := ok b (List.mem_of_getElem? hb)
          refine s_if (b := decide (valX b m = q)) (et_is (et_and (a := true) (b := decide (valX b m = q)) (et_test (ev_is (ev_op (ev_seen (K := K) (i := 2) (j := 7) (k := j) rfl (E7 _ _ hc) rfl ho) ev_c fun H1 e Q q => ⟨rfl, q H1 (Ex.refl _)⟩) rfl)) fun _ => et_test (ev_eqD (K := K) (ep_val (K := K) (p := p) (i := 0) (j := 7) (m := 2) rfl (Dq.ex E7 _ _ hu) rfl (E7 _ _ hc) rfl hb ho (so.lt j m b ho hb) okb) (ep_var (i := 4) rfl (fz.ex (ex5.trans (e6.trans ex)))))) rfl) (fun hv G2 e2 => ?_) (fun hv G2 e2 => ?_)
          · refine ⟨_, rfl, by show 2 ≤ sizeLine; decide, fun t9 ft9 => ?_⟩
            have x9' := Ex.new (o := .tup [V.str "take", V.int (j : Nat)]) ft9
            exact kk (.ref t9) (.take j) _ (E7.trans (e2.trans x9')) (.tk M no ho hb (of_decide_eq_true hv)) (.tup (SqT.of upd_same) (.cons (.str _) (.cons (.int _) .nil)))
          · exact n_next ⟨⟨_, _, rfl⟩, ex.trans e2, nx (fun m' hm' => by
              rw [ho'] at hm'
              cases hm'
              exact of_decide_eq_false hv)⟩
      · rintro σ G ⟨⟨y6, y7, rfl⟩, ex, bad⟩
        have q0' : q = 0 := by
          rcases M.at_ with h | ⟨k, b, j, hb, hs, e⟩
          · exact h
          · exact absurd e (bad k j b (List.getElem?_eq_some_iff.mp hb).1 hs hb)
        refine ⟨by show 1 ≤ sizeLine; decide, fun t9 ft9 => ?_⟩
        have x9' := Ex.new (o := .tup [V.str "leave"]) ft9
        exact kk (.ref t9) .leave _ (E6.trans (ex.trans x9')) (.lv M no q0') (.tup (SqT.of upd_same) (.cons (.str _) .nil))
end
/-! ### the mean by the rule of reserves -/
theorem step_best {B : List Bx} {zs : List Rat} {s : Seen} {mv : Mv} (l1 : 1 ≤ B.length) (l2 : B.length ≤ 2) (zl : zs.length = B.length) (so : s.length = B.length) (ok : ∀ b ∈ B, BxQ b) (rs : ∀ (i : Nat) (b : Bx) (z : Rat), B[i]? = some b → zs[i]? = some z → IsRes b z) (h : StepP B zs s mv) : worthM B s mv = best B s := by
  match B, zs, s, l1, l2, zl, so with
  | [a], [za], [o], _, _, _, _ => exact step_one (ok a List.mem_cons_self) (rs 0 a za rfl rfl) h
  | [a, b], [za, zb], [o, u], _, _, _, _ => exact step_two (ok a List.mem_cons_self) (ok b (List.mem_cons_of_mem _ List.mem_cons_self)) (rs 0 a za rfl rfl) (rs 1 b zb rfl rfl) h
theorem worthM_open {B : List Bx} {s : Seen} {k : Nat} {b : Bx} (hb : B[k]? = some b) : worthM B s (.open_ k) = mvR (best B) s k b none := by
  simp only [worthM, hb]
  rfl
theorem worthM_take {B : List Bx} {s : Seen} {k j : Nat} {b : Bx} (hb : B[k]? = some b) (hs : s[k]? = some (some j)) : worthM B s (.take k) = mvR (best B) s k b (some j) := by
  simp only [worthM, hb, hs]
  rfl
theorem mv_mem {B : List Bx} {zs : List Rat} {s : Seen} {mv : Mv} (so : SnOk B s) (h : StepP B zs s mv) (e : worthM B s mv = best B s) : mvMD mv ∈ bstD B s := by
  unfold bstD
  have put : ∀ (k : Nat) (o : Option Nat) (b : Bx), s[k]? = some o → B[k]? = some b → mvR (best B) s k b o = best B s → mvD k o ∈ ((mvAll B s).filter fun r => decide (r.2 = best B s)).map fun r => r.1 := fun k o b ho hb he => by
    have := mvRows_at (best B) s s B 0 k o b ho hb
    rw [Nat.zero_add] at this
    exact List.mem_map.mpr ⟨_, List.mem_filter.mpr ⟨List.mem_cons_of_mem _ (List.mem_of_getElem? this), decide_eq_true he⟩, rfl⟩
  cases h with
  | @op m k z M hs hz lt mo =>
    have kl : k < B.length := by rw [← so.l]; exact (List.getElem?_eq_some_iff.mp hs).1
    have hb := List.getElem?_eq_getElem kl
    refine put k none _ hs hb ?_
    rw [← e]
    exact (worthM_open hb).symm
  | @tk m k j b M no hs hb hv =>
    refine put k (some j) b hs hb ?_
    rw [← e]
    exact (worthM_take hb hs).symm
  | @lv m M no hm => exact List.mem_map.mpr ⟨(leaveD, 0), List.mem_filter.mpr ⟨List.mem_cons_self, decide_eq_true e⟩, rfl⟩
theorem eqv_mv (mv : Mv) : PyData.eqv (mvMD mv) (mvMD mv) = true := by
  cases mv <;> simp [mvMD, mvD, leaveD, PyData.eqv, PyData.eqvAll]
theorem bst_lay {B : List Bx} {s : Seen} {d : PyData} (h : d ∈ bstD B s) : d.canLay0 = true ∧ d.depth ≤ 60 ∧ d.hasDict = false := by
  refine ⟨(rw_moves B s).lay d h, (rw_moves B s).deep d h, ?_⟩
  rcases bst_mem h with rfl | ⟨j, o, rfl⟩
  · rfl
  · cases o <;> rfl
theorem lay_list : ∀ {ds : List PyData}, (∀ d ∈ ds, d.canLay0 = true ∧ d.depth ≤ 60 ∧ d.hasDict = false) → PyData.canLayAll0 ds = true ∧ PyData.depthAll ds ≤ 60 ∧ PyData.hasDictAll ds = false
  | [], _ => ⟨rfl, by simp [PyData.depthAll], rfl⟩
  | d :: ds, h => by
    obtain ⟨h1, h2, h3⟩ := h d List.mem_cons_self
    obtain ⟨g1, g2, g3⟩ := lay_list fun x hx => h x (List.mem_cons_of_mem _ hx)
    refine ⟨by simp [PyData.canLayAll0, h1, g1], ?_, by simp [PyData.hasDictAll, h3, g3]⟩
    simp only [PyData.depthAll]
    omega
theorem mv_td (mv : Mv) : SeqAt.shaped (mvMD mv) = true ∧ (mvMD mv).hasDict = false := by
  cases mv with
  | leave => exact ⟨by decide +kernel, rfl⟩
  | open_ k =>
    refine ⟨?_, rfl⟩
    unfold SeqAt.shaped mvMD mvD
    simp [PyData.canLay0, PyData.canLayAll0, PyData.depth, PyData.depthAll]
    decide +kernel
  | take k =>
    refine ⟨?_, rfl⟩
    unfold SeqAt.shaped mvMD mvD
    simp [PyData.canLay0, PyData.canLayAll0, PyData.depth, PyData.depthAll]
    decide +kernel
def bnM : Nat → Nat
  | 0 => 4
  | 1 => 40
  | _ => 150
theorem bnM_le (n : Nat) : 4 ≤ bnM n ∧ bnM n ≤ 150 := by
  unfold bnM
  split <;> decide
def spMn (K : PySem.W.Frag) (Ts : List Addr) (k : Nat) : Sp := fun vs H Q _ => ∃ (p : Addr) (u : V) (lm c : Addr) (ms : List V) (B : List Bx) (zs : List Rat) (s : Seen), vs = [u, .ref lm, .ref c] ∧ Dq K p H u (bxsD B) ∧ H lm = some (.lst ms) ∧ AllFr K 70 H ms zs ∧ zs.length = B.length ∧ H c = some (.tup (s.map optV)) ∧ 1 ≤ B.length ∧ B.length ≤ 2 ∧ (∀ b ∈ B, BxOk b) ∧ (∀ (i : Nat) (b : Bx) (z : Rat), B[i]? = some b → zs[i]? = some z → IsRes b z) ∧ SnOk B s ∧ nnS s < k ∧ TBs Ts H ∧
  ∀ z H', ExN H H' → TBs Ts H' → Fr K (bnM (nnS s)) (best B s) z H' → Q z H'
theorem AllFr.xn {K : PySem.W.Frag} {b : Nat} {H H' : Hp} {xs : List V} {qs : List Rat} (e : ExN H H') (h : AllFr K b H xs qs) : AllFr K b H' xs qs := ⟨h.1, fun i x q hx hq => (h.2 i x q hx hq).xn e⟩
section
variable {P : Program} {w : World} {K : PySem.W.Frag} {mg : Str → Option Value} {base : Heap}
theorem mean_of (T : Txt K mg) (tb_add_all : GxR.TabB base mg T.c_add_all T.P_add_all) (tb_are_prizes : GxR.TabB base mg T.c_are_prizes T.P_are_prizes) (tb_is_boxes : GxR.TabB base mg T.c_is_boxes T.P_is_boxes) (tb_is_seen : GxR.TabB base mg T.c_is_seen T.P_is_seen) (k : Nat)
    (ih : FnOk P w K mg base CX0 (27 + k) T.d__law_mean.a T.d__law_mean.fd ["_law_boxes", "_law_marks", "_law_seen"] (spMn K (tts T) k)) : FnOk P w K mg base CX0 (27 + k + 1) T.d__law_mean.a T.d__law_mean.fd ["_law_boxes", "_law_marks", "_law_seen"] (spMn K (tts T) (k + 1)) := by
  refine (T.d__law_mean.F.ok (k := 27 + k) sc__law_mean (fun vs H Q E h => ?_) fun cdv A outer s H vs Q E hr h => ?_)
  · obtain ⟨p, u, lm, c, ms, B, zs, s, rfl, _⟩ := h
    rfl
  · obtain ⟨p, u, lm, c, ms, B, zs, sn, rfl, hu, hm, fm, zl, hc, l1, l2, ok, rs, so, nk, ht, kk⟩ := h
    have hu65 : (A.deeper (envOfC (Str.ofString "_law_mean") (defScope s__law_mean) s.heap.objs.size T.d__law_mean.a cdv)).units + 65 < cLine := by have := hr.un; omega
    refine ⟨_, (pss_cons (ps_set (i := 3) sc__law_mean.nd rfl (Or.inl rfl) (pe_call (ok__law_step T) (hr.mono (by omega)) (by rfl) T.d__law_step.g T.d__law_step.F.kp T.d__law_step.b .nil pass0 (pa_cons (pv 0) (pa_cons (pv 1) (pa_cons (pv 2) pa_nil)))))
      (pss_cons (ps_if (pt_cmpR (op_notInD hu65) (pv 3) (pe_call (ok_best_moves T tb_add_all tb_are_prizes tb_is_boxes tb_is_seen) (hr.mono (by omega)) (by rfl) T.d_best_moves.g T.d_best_moves.F.kp T.d_best_moves.b .nil pass0 (pa_cons (pv 0) (pa_cons (pv 2) pa_nil))) (by rfl)) (pss_one (ps_ret pe_non)) pss_nil)
      (pss_cons (ps_if (pt_cmpR op_eq (pe_ix ix_tup (pv 3) pe_int (fun _ _ => rfl)) pe_str (nomark _)) (pss_one (ps_ret (pe_tup (pa_cons pe_int (pa_cons pe_int pa_nil))))) pss_nil)
      (pss_cons (ps_asg (pe_ix ix_tup (pv 0) (pe_ix ix_tup (pv 3) pe_int (fun _ _ => rfl)) (fun _ _ => rfl)) (pg_tup (by rfl) (pgs_cons (pg_name (i := 4) sc__law_mean.nd rfl (Or.inl rfl)) (pgs_cons (pg_name (i := 5) sc__law_mean.nd rfl (Or.inl rfl)) pgs_nil))))
      (pss_cons (ps_if (pt_cmpR op_eq (pe_ix ix_tup (pv 3) pe_int (fun _ _ => rfl)) pe_str (nomark _)) (pss_one (ps_ret (pe_ix ix_tup (pe_ix ix_tup (pv 5) (pe_ix ix_tup (pv 2) (pe_ix ix_tup (pv 3) pe_int (fun _ _ => rfl)) (fun _ _ => rfl)) (fun _ _ => rfl)) pe_int (fun _ _ => rfl)))) pss_nil)
      (pss_cons (ps_set (i := 6) sc__law_mean.nd rfl (Or.inl rfl) (pe_call (ok__law_mul T) (hr.mono (by omega)) (by rfl) T.d__law_mul.g T.d__law_mul.F.kp T.d__law_mul.b .nil pass0 (pa_cons (pe_tup (pa_cons (pe_un un_neg pe_int) (pa_cons pe_int pa_nil))) (pa_cons (pv 4) pa_nil))))
      (pss_cons (ps_for PassesOwn.never rfl (pi_enumT (by rfl) T.n_enumerate (pa_cons (pv 5) pa_nil)) (pg_tup (by rfl) (pgs_cons (pg_name (i := 7) sc__law_mean.nd rfl (Or.inl rfl)) (pgs_cons (pg_tup (by rfl) (pgs_cons (pg_name (i := 8) sc__law_mean.nd rfl (Or.inl rfl)) (pgs_cons (pg_name (i := 9) sc__law_mean.nd rfl (Or.inl rfl)) pgs_nil))) pgs_nil))) (pss_cons (ps_set (i := 10) sc__law_mean.nd rfl (Or.inl rfl) (pe_call ih (hr.mono (by omega)) (by rfl) T.d__law_mean.g T.d__law_mean.F.kp T.d__law_mean.b .nil pass0 (pa_cons (pv 0) (pa_cons (pv 1) (pa_cons (pe_op op_catA (pe_op op_catA (pe_slice sl_tup (pv 2) po_none (po_some (pe_ix ix_tup (pv 3) pe_int (fun _ _ => rfl)))) (pe_tup (pa_cons (pv 7) pa_nil))) (pe_slice sl_tup (pv 2) (po_some (pe_op op_add (pe_ix ix_tup (pv 3) pe_int (fun _ _ => rfl)) pe_int)) po_none)) pa_nil)))))
      (pss_cons (ps_if (pt_cmpR op_isN (pv 10) pe_non (nomark _)) (pss_one (ps_ret pe_non)) pss_nil)
      (pss_one (ps_set (i := 6) sc__law_mean.nd rfl (Or.inl rfl) (pe_call (ok__law_add T) (hr.mono (by omega)) (by rfl) T.d__law_add.g T.d__law_add.F.kp T.d__law_add.b .nil pass0 (pa_cons (pv 6) (pa_cons (pe_call (ok__law_mul T) (hr.mono (by omega)) (by rfl) T.d__law_mul.g T.d__law_mul.F.kp T.d__law_mul.b .nil pass0 (pa_cons (pv 8) (pa_cons (pv 10) pa_nil))) pa_nil))))))))
      (pss_one (ps_ret (pv 6)))))))))), ?_⟩
    refine n_seq ?_
    refine ⟨_, rfl, _, rfl, _, rfl, p, u, lm, c, ms, B, zs, sn, rfl, hu, hm, fm, zl, hc, l1, l2, ok, so, fun v mv H1 e1 st qm => ?_⟩
    have wb := step_best l1 l2 zl so.l (fun b hb => (ok b hb).p) rs st
    have mm := mv_mem so st wb
    refine n_name ?_
    dsimp only
    refine n_seq ?_
    refine ⟨_, rfl, _, rfl, _, rfl, p, u, c, B, sn, rfl, Dq.ex e1 _ _ hu, e1 _ _ hc, l1, l2, ok, so, ht.ex e1, fun l ys H2 e2 t2 hl qy => ?_⟩
    have E2 := (Ex.n e1).trans e2
    have qm2 := Dq.xn e2 _ _ qm
    obtain ⟨sh1, hd1⟩ := mv_td mv
    have inm : mvMD mv ∈ So.srt (bstD B sn) := (So.srt_perm _).mem_iff.mpr mm
    obtain ⟨y1, y2, y3⟩ := lay_list fun d (hd : d ∈ So.srt (bstD B sn)) => bst_lay ((So.srt_perm _).mem_iff.mp hd)
    have shL : SeqAt.shaped (.list (So.srt (bstD B sn))) = true := by
      unfold SeqAt.shaped
      rw [Bool.and_eq_true]
      refine ⟨by simpa [PyData.canLay0] using y1, decide_eq_true ?_⟩
      show PyData.depthAll _ + 1 ≤ 64
      omega
    have anyE : (So.srt (bstD B sn)).any (fun z => PyData.eqv z (mvMD mv)) = true := List.any_eq_true.mpr ⟨_, inm, eqv_mv mv⟩
    refine ⟨_, _, Dq.dp (p := p) _ _ hd1 qm2, .lst (SqL.of hl) (DqAll.dp (p := p) _ _ y3 qy), sh1, shL, _, rfl, ?_⟩
    rw [anyE]
    refine iteF ?_
    refine n_next ?_
    dsimp only
    have hu2 := Dq.xn E2 _ _ hu
    have hc2 := E2.tp hc
    have hm2 := E2.l hm
    have fm2 := fm.xn E2
    clear qy hl anyE inm shL y1 y2 y3 sh1 hd1 mm
    -- the first word of the move
    have w0 : ∀ {x : Str} {r : List PyData}, mvMD mv = .tuple (.str x :: r) → ∀ {σ : L2.St}, σ[3]? = some (some v) → ∀ {y : Str} {G : Hp}, Ex H2 G → Ev (tOp rEq (tOp (rIxT K) (tVar 3) (tC (.int 0))) (tC (.str y))) σ G (.bl (decide (V.str x = V.str y))) := fun {x r} em {σ} h3 {y G} eG H3 e3 Q' k' => by
      rw [em] at qm2
      exact ed_ix (K := K) (p := p) (i := 3) (j := 0) h3 (Dq.ex (eG.trans e3) _ _ qm2) rfl H3 (Ex.refl _) _ fun w H4 e4 q => by
        cases q
        exact rv_eq (H := H4) rfl H4 (Ex.refl _) _ fun H5 e5 => k' H5 (e4.trans e5)
    cases mv with
    | leave =>
      refine n_seq ?_
      refine s_if (b := true) (et_test (ev_is (w0 (x := "leave") (r := []) rfl rfl (Ex.refl _)) (by decide))) (fun _ H3 e3 => ?_) (fun z => nomatch z)
      refine s_retP (ep_01 (K := K)) fun z H4 e4 fz => kk z H4 (E2.trans (Ex.n (e3.trans e4))) (t2.ex (e3.trans e4)) ?_
      have : best B sn = 0 := wb.symm
      rw [this]
      exact fz.mono (by have := bnM_le (nnS sn); omega)
    | take k0 =>
      refine n_seq ?_
      refine s_skip (et_test (ev_is (w0 (x := "take") (r := [.int (k0 : Nat)]) rfl rfl (Ex.refl _)) (by decide))) fun H3 e3 => ?_
      dsimp only
      obtain ⟨a3, y1, y2, rfl, hS3, qa, qb⟩ := Dq.pair (d := .str "take") (e := .int (k0 : Nat)) qm2
      cases qa
      cases qb
      cases st with
      | @tk m _ j b M no hs hb hv =>
      have okb := ok b (List.mem_of_getElem? hb)
      have hu0 : Dq K p H2 u (.tuple (B.map bxD)) := hu2
      obtain ⟨a, xs, rfl, hS, hA⟩ := hu0.seq
      obtain ⟨x, hx, qx⟩ := hA.get (j := k0) (dj := bxD b) (by rw [List.getElem?_map, hb]; rfl)
      obtain ⟨a1, x1, c1, ys', rfl, hS1, q1, hS2, hA2⟩ := bx_pair qx
      obtain ⟨pz, hpz⟩ : ∃ pz, b.2[j]? = some pz := ⟨_, List.getElem?_eq_getElem (so.lt k0 j b hs hb)⟩
      obtain ⟨y, hy, qy⟩ := hA2.get (j := j) (dj := pzD pz) (by rw [List.getElem?_map, hpz]; rfl)
      obtain ⟨a2, u1, u2, rfl, hS5, p1, p2⟩ := Dq.pair qy
      refine n_seq ?_
      refine ⟨_, rfl, _, rfl, a3, _, (1 : Nat), .int (k0 : Nat), rfl, rfl, ex_t e3 hS3, atI_nat rfl, a, xs, (k0 : Int), _, rfl, rfl, ex_t e3 hS, atI_nat hx, a1, _, rfl, ex_t e3 hS1, rfl, _, _, rfl, _, _, rfl, rfl, ?_⟩
      dsimp only
      refine n_seq ?_
      refine s_if (b := true) (et_test (ev_is (w0 (x := "take") (r := [.int (k0 : Nat)]) rfl rfl e3) (by decide))) (fun _ H4 e4 => ?_) (fun z => nomatch z)
      have E4 := e3.trans e4
      refine ⟨_, rfl, _, rfl, _, rfl, a3, _, (1 : Nat), .int (k0 : Nat), rfl, rfl, ex_t E4 hS3, atI_nat rfl, c, _, (k0 : Int), .int (j : Nat), rfl, rfl, SqT.of (E4 _ _ hc2), atI_nat (by rw [List.getElem?_map, hs]; rfl), c1, ys', (j : Int), _, rfl, rfl, ex_t E4 hS2, atI_nat hy, a2, _, (1 : Nat), u2, rfl, rfl, ex_t E4 hS5, atI_nat rfl, ?_⟩
      refine kk u2 H4 (E2.trans (Ex.n E4)) (t2.ex E4) ?_
      rw [← wb, worthM_take hb hs]
      show Fr K _ (valX b j) u2 H4
      rw [val_at hpz]
      exact ((p2.frq (okb.pz pz (List.mem_of_getElem? hpz)).vb).ex E4).mono (bnM_le _).1
    | open_ k0 =>
      refine n_seq ?_
      refine s_skip (et_test (ev_is (w0 (x := "open") (r := [.int (k0 : Nat)]) rfl rfl (Ex.refl _)) (by decide))) fun H3 e3 => ?_
      dsimp only
      obtain ⟨a3, y1, y2, rfl, hS3, qa, qb⟩ := Dq.pair (d := .str "open") (e := .int (k0 : Nat)) qm2
      cases qa
      cases qb
      have hs : sn[k0]? = some none := by
        cases st with
        | op M hs hz lt mo => exact hs
      have k0l : k0 < sn.length := (List.getElem?_eq_some_iff.mp hs).1
      obtain ⟨b, hb⟩ : ∃ b, B[k0]? = some b := ⟨_, List.getElem?_eq_getElem (by rw [← so.l]; exact k0l)⟩
      have okb := ok b (List.mem_of_getElem? hb)
      have L3 := okb.l3
      have hu0 : Dq K p H2 u (.tuple (B.map bxD)) := hu2
      obtain ⟨a, xs, rfl, hS, hA⟩ := hu0.seq
      obtain ⟨x, hx, qx⟩ := hA.get (j := k0) (dj := bxD b) (by rw [List.getElem?_map, hb]; rfl)
      obtain ⟨a1, x1, c1, ys', rfl, hS1, q1, hS2, hA2⟩ := bx_pair qx
      have yl : ys'.length = b.2.length := by rw [hA2.len, List.length_map]
      refine n_seq ?_
      refine ⟨_, rfl, _, rfl, a3, _, (1 : Nat), .int (k0 : Nat), rfl, rfl, ex_t e3 hS3, atI_nat rfl, a, xs, (k0 : Int), _, rfl, rfl, ex_t e3 hS, atI_nat hx, a1, _, rfl, ex_t e3 hS1, rfl, _, _, rfl, _, _, rfl, rfl, ?_⟩
      dsimp only
      refine n_seq ?_
      refine s_skip (et_test (ev_is (w0 (x := "open") (r := [.int (k0 : Nat)]) rfl rfl e3) (by decide))) fun H4 e4 => ?_
      have E4 := e3.trans e4
      dsimp only
      refine n_seq ?_
      refine s_asgP (ep_2L (K := K) (b := 1) (c := 8) (n := 10) (ep_m1 (K := K)) (ep_var rfl ((q1.frq okb.cb).ex E4)) trivial (by decide) rfl) fun z5 H5 e5 f5 => ?_
      have E5 := E4.trans e5
      have f5' : Fr K 10 (-b.1) z5 H5 := by
        rw [show -b.1 = -1 * b.1 by grind]
        exact f5
      dsimp only
      have nnk : ∀ j, nnS (sn.set k0 (some j)) + 1 = nnS sn := fun j => (nn_set (k := j) hs).symm
      have n2 : nnS sn ≤ 2 := by
        have := nn_le sn
        have := so.l
        omega
      have n1 : 1 ≤ nnS sn := by
        have := nnk 0
        omega
      have hM := bnM_le (nnS sn - 1)
      have bM3 : 10 + 3 * (bnM (nnS sn - 1) + 6) ≤ bnM (nnS sn) := by
        have h1 : nnS sn = 1 ∨ nnS sn = 2 := by omega
        rcases h1 with h1 | h1 <;> rw [h1] <;> decide
      refine n_seq ?_
      refine ⟨_, rfl, c1, ys', rfl, ex_t E5 hS2, ?_⟩
      refine for_it (walk_enumT (K := K) (a := c1) (xs := ys')) (fun j σ G => ∃ (z : V) (y7 y8 y9 y10 : Option V), σ = [some (.ref a), some (.ref lm), some (.ref c), some (.ref a3), some x1, some (.ref c1), some z, y7, y8, y9, y10] ∧ ExN H2 G ∧ TBs (tts T) G ∧ Fr K (10 + j * (bnM (nnS sn - 1) + 6)) ((-b.1 :: (opnL (fun m => best B (sn.set k0 (some m))) 0 b.2).take j).sum) z G) ⟨z5, none, none, none, none, rfl, Ex.n E5, t2.ex E5, by rw [List.take_zero, List.sum_singleton, Nat.zero_mul]; exact f5'⟩ (fun j σ G _ h => by
        obtain ⟨_, _, _, _, _, _, e, _⟩ := h
        exact e.st hS2) ?_ ?_
      · rintro j x σ G G' hj ⟨z, y7, y8, y9, y10, rfl, ex, tG, fz⟩ ⟨T0, nx, y, rfl, hT0, rfl, hn, hy⟩
        cases hn
        obtain ⟨pz, hpz, qp⟩ := (DqAll.xn ex _ _ hA2).atG hy
        have okp := okb.pz pz (List.mem_of_getElem? hpz)
        have jl : j < b.2.length := (List.getElem?_eq_some_iff.mp hpz).1
        have xT := Ex.new (o := .tup [V.int (j : Nat), y]) hT0
        obtain ⟨a4, u1, u2, rfl, hS4, p1, p2⟩ := (Dq.ex xT _ _ qp).pair
        have exG := ex.trans (Ex.n xT)
        have fzT := fz.ex xT
        have tT := tG.ex xT
        have hcT := exG.tp hc2
        have hmT := exG.l hm2
        have fmT := fm2.xn exG
        have huT := Dq.xn exG _ _ hu2
        have hS3T := exG.st hS3
        generalize hGT : upd G T0 (.tup [V.int (j : Nat), .ref a4]) = GT at exG fzT tT hcT huT hS4 p1 p2 hmT fmT hS3T
        refine ⟨T0, _, rfl, SqT.of (by rw [← hGT]; exact upd_same), rfl, _, _, rfl, _, _, rfl, a4, _, rfl, hS4, rfl, _, _, rfl, _, _, rfl, rfl, rfl, ?_⟩
        dsimp only
        refine n_seq ?_
        have ik : ∀ {σ : L2.St}, σ[3]? = some (some (.ref a3)) → Ev (tOp (rIxT K) (tVar 3) (tC (.int 1))) σ GT (.int (k0 : Nat)) := fun h H1 e Q q => ⟨_, h, a3, _, (1 : Nat), .int (k0 : Nat), rfl, rfl, ex_t e hS3T, atI_nat rfl, q H1 (Ex.refl _)⟩
        refine ⟨_, rfl, _, rfl, (ep_setS (K := K) (j := 2) (i := k0) (k := j) rfl hcT (ik rfl) (ev_var rfl) k0l (by rw [so.l]; omega)) GT (Ex.refl _) _ fun v G2 e6 qv => ?_⟩
        obtain ⟨cb, rfl, hcb⟩ := qv
        have son := sn_set (k := j) so hb jl
        refine ⟨p, _, lm, cb, ms, B, zs, sn.set k0 (some j), rfl, Dq.ex e6 _ _ huT, e6 _ _ hmT, ⟨fmT.1, fun i x q hx hq => (fmT.2 i x q hx hq).ex e6⟩, zl, hcb, l1, l2, ok, rs, son, by have := nnk j; omega, tT.ex e6, fun zz G4 e7 t4 fz4 => ?_⟩
        obtain ⟨za, rfl, _⟩ := id fz4
        have E7 := (Ex.n e6).trans e7
        refine n_name ?_
        dsimp only
        refine n_seq ?_
        refine s_skip (et_is (et_test (ev_op (ev_var (i := 10) rfl) ev_c fun H1 e Q q => ⟨rfl, q H1 (Ex.refl _)⟩)) (decide_eq_false (fun z => nomatch z))) fun G5 e8 => ?_
        have E8 := E7.trans (Ex.n e8)
        dsimp only
        have nns := nnk j
        have nse : nnS (sn.set k0 (some j)) = nnS sn - 1 := by omega
        rw [nse] at fz4
        refine s_asgP (ep_2L (K := K) (b := 10 + j * (bnM (nnS sn - 1) + 6)) (c := bnM (nnS sn - 1) + 5) (ep_var rfl (fzT.xn E8)) (ep_2L (b := 4) (c := bnM (nnS sn - 1)) (ep_var rfl ((Dq.xn E8 _ _ p1).frq okp.qb)) (ep_var rfl (fz4.ex e8)) trivial (by omega) (by omega)) trivial (by
          have : j * (bnM (nnS sn - 1) + 6) ≤ 3 * (bnM (nnS sn - 1) + 6) := Nat.mul_le_mul_right _ (by omega)
          omega) rfl) fun z' G6 e9 f6 => ?_
        refine ⟨z', _, _, _, _, rfl, exG.trans (E8.trans (Ex.n e9)), (t4.ex e8).ex e9, ?_⟩
        have tk := opnL_at (fun m => best B (sn.set k0 (some m))) b.2 0 j pz hpz
        rw [Nat.zero_add] at tk
        rw [take_snoc tk, ← List.cons_append, List.sum_append]
        have : (-b.1 :: (opnL (fun m => best B (sn.set k0 (some m))) 0 b.2).take j).sum + [pz.1 * best B (sn.set k0 (some j))].sum = (-b.1 :: (opnL (fun m => best B (sn.set k0 (some m))) 0 b.2).take j).sum + pz.1 * best B (sn.set k0 (some j)) := by
          rw [List.sum_singleton]
        rw [this]
        exact f6.mono (by rw [Nat.succ_mul]; omega)
      · rintro σ G ⟨z, y7, y8, y9, y10, rfl, ex, tG, fz⟩
        rw [List.take_of_length_le (by rw [opnL_len, yl]; exact Nat.le_refl _)] at fz
        refine ⟨_, rfl, kk z G (E2.trans ex) tG ?_⟩
        rw [← wb, worthM_open hb]
        show Fr K _ (opnS b fun m => best B (sn.set k0 (some m))).sum z G
        have : ys'.length * (bnM (nnS sn - 1) + 6) ≤ 3 * (bnM (nnS sn - 1) + 6) := Nat.mul_le_mul_right _ (by omega)
        exact fz.mono (by omega)
theorem ok__law_mean (T : Txt K mg) (tb_add_all : GxR.TabB base mg T.c_add_all T.P_add_all) (tb_are_prizes : GxR.TabB base mg T.c_are_prizes T.P_are_prizes) (tb_is_boxes : GxR.TabB base mg T.c_is_boxes T.P_is_boxes) (tb_is_seen : GxR.TabB base mg T.c_is_seen T.P_is_seen) : ∀ k, FnOk P w K mg base CX0 (27 + k) T.d__law_mean.a T.d__law_mean.fd ["_law_boxes", "_law_marks", "_law_seen"] (spMn K (tts T) k)
  | 0 => by
    have no : ∀ vs H Q E, ¬ spMn K (tts T) 0 vs H Q E := fun vs H Q E h => by
      obtain ⟨p, u, lm, c, ms, B, zs, s, _, _, _, _, _, _, _, _, _, _, _, nk, _⟩ := h
      omega
    exact T.d__law_mean.F.ok (k := 26) sc__law_mean (fun vs H Q E h => absurd h (no _ _ _ _)) fun cdv A outer s H vs Q E hr h => absurd h (no _ _ _ _)
  | k + 1 => mean_of T tb_add_all tb_are_prizes tb_is_boxes tb_is_seen k (ok__law_mean T tb_add_all tb_are_prizes tb_is_boxes tb_is_seen k)
end
/-! ### the law itself -/
theorem Pen.xn {H H' : Hp} {p a : Addr} {N : Nat} (e : ExN H H') (h : Pen H p a N) : Pen H' p a N := by
  obtain ⟨cs, t, v, h1, h2, r⟩ := h
  exact ⟨cs, t, v, e.l h1, e.l h2, r⟩
theorem Pen.xt {H H' : Hp} {p a : Addr} {N : Nat} (e : ExT H H') (h : Pen H p a N) : Pen H' p a N := h.xn e.n
theorem nos_rep (B : List Bx) : (noS B).map optV = List.replicate B.length V.non := by
  unfold noS
  rw [List.map_map]
  exact List.map_eq_replicate_iff.mpr fun x _ => rfl
theorem BxOk.more {b : Bx} (ok : BxOk b) (h4 : Bd 4 b.1) : BxOk (b.1 + 1 / 2, b.2) where
  c0 := by
    have := ok.c0
    show 0 ≤ b.1 + 1 / 2
    grind
  cb := by
    have h : Bd 2 (1 / 2 : Rat) := ⟨by decide +kernel, by decide +kernel⟩
    exact (h4.add h).mono (by decide)
  l1 := ok.l1
  l3 := ok.l3
  pz := ok.pz
  one := ok.one
def spLaw (K : PySem.W.Frag) (Ts : List Addr) : Sp := fun vs H Q _ => ∃ (a : Addr) (ns : List Int), vs = [.ref a] ∧ SqL K H a (ns.map V.int) ∧ ns.length ≤ 63 ∧ (∀ t ∈ Ts, GxR.TabG H t) ∧ ∀ H', Q (.bl true) H'
section
variable {P : Program} {w : World} {K : PySem.W.Frag} {mg : Str → Option Value} {base : Heap}
theorem ok_law (T : Txt K mg) (tb_add_all : GxR.TabB base mg T.c_add_all T.P_add_all) (tb_are_prizes : GxR.TabB base mg T.c_are_prizes T.P_are_prizes) (tb_is_boxes : GxR.TabB base mg T.c_is_boxes T.P_is_boxes) (tb_is_seen : GxR.TabB base mg T.c_is_seen T.P_is_seen) : FnG P w K mg base 31 T.d_law.a T.d_law.fd ["_law_script"] (spLaw K (tts T)) := by
  refine okG T.d_law.F sc_law (fun vs H Q E h => ?_) (fun cdv A outer s H vs Q gd hr h => ?_)
  · obtain ⟨a, ns, rfl, _⟩ := h
    rfl
  · obtain ⟨a, ns, rfl, hS, hl, ht0, k⟩ := h
    refine ⟨_, (pss_cons (ps_set (i := 1) sc_law.nd rfl (Or.inr rfl) (pe_call (ok__law_pen T) (hr.mono (by decide)) (by rfl) T.d__law_pen.g T.d__law_pen.F.kp T.d__law_pen.b .nil pass0 (pa_cons (pv 0) pa_nil)))
      (pss_cons (ps_for PassesOwn.never rfl (pi_range1 (by rfl) T.n_range (pa_cons pe_int pa_nil)) (pg_name (i := 2) sc_law.nd rfl (Or.inl rfl)) (pss_cons (ps_set (i := 3) sc_law.nd rfl (Or.inl rfl) (pe_callTy call_tuple_of (by rfl) T.n_tuple (by decide +kernel) (pa_cons (pe_lc (own := [("_law_box_here", 8)]) (g := gName 8) (tt := tYes) rfl sc_law.nd (pi_range1 (by rfl) T.n_range (pa_cons (pe_op op_add pe_int (pe_call (ok__law_draw T) (hr.mono (by decide)) (by rfl) T.d__law_draw.g T.d__law_draw.F.kp T.d__law_draw.b .nil pass0 (pa_cons (pv 1) (pa_cons pe_int pa_nil)))) pa_nil)) (blkOk_by (own := [("_law_box_here", 8)]) (N := n_law) (sc := defScope s_law) (by decide +kernel)) (fun _ _ _ _ _ => pg_name (i := 8) sc_law.nd rfl (Or.inl rfl)) (fun _ _ _ _ _ => pts_nil) (fun _ _ _ _ _ => (pe_call (ok__law_box T) (hr.mono (by decide)) (by rfl) T.d__law_box.g T.d__law_box.F.kp T.d__law_box.b .nil pass0 (pa_cons (pv 1) pa_nil)))) pa_nil)))
      (pss_cons (ps_setLc (i := 4) (own := [("_law_box_here", 8)]) (g := gName 8) (tt := tYes) rfl sc_law.nd rfl rfl (sw_true rfl rfl rfl (by decide +kernel)) (pi_tup (pv 3)) (blkOk_by (own := [("_law_box_here", 8)]) (N := n_law) (sc := defScope s_law) (by decide +kernel)) (fun _ _ _ _ _ => pg_name (i := 8) sc_law.nd rfl (Or.inl rfl)) (fun _ _ _ _ _ => pts_nil) (fun _ _ _ _ _ => (pe_call (ok_reserve T tb_add_all tb_are_prizes) (hr.mono (by decide)) (by rfl) T.d_reserve.g T.d_reserve.F.kp T.d_reserve.b .nil pass0 (pa_cons (pv 8) pa_nil))))
      (pss_cons (ps_for PassesOwn.never rfl (pi_enumT (by rfl) T.n_enumerate (pa_cons (pv 3) pa_nil)) (pg_tup (by rfl) (pgs_cons (pg_name (i := 5) sc_law.nd rfl (Or.inl rfl)) (pgs_cons (pg_tup (by rfl) (pgs_cons (pg_name (i := 6) sc_law.nd rfl (Or.inl rfl)) (pgs_cons (pg_name (i := 7) sc_law.nd rfl (Or.inl rfl)) pgs_nil))) pgs_nil))) (pss_cons (ps_if (pt_cmpR (op_eqD hr.units) (pv 6) (pe_tup (pa_cons pe_int (pa_cons pe_int pa_nil))) (nomark _)) (pss_one (ps_if (pt_cmpR (op_neD hr.units) (pe_ix ix_list (pv 4) (pv 5) (fun _ _ => rfl)) (pe_call (ok__law_most T) (hr.mono (by decide)) (by rfl) T.d__law_most.g T.d__law_most.F.kp T.d__law_most.b .nil pass0 (pa_cons (pe_lc (own := [("_law_chance", 9), ("_law_value", 10)]) (g := gTup K 2 (gCons (gName 9) (gCons (gName 10) gNil))) (tt := tYes) rfl sc_law.nd (pi_tup (pv 7)) (blkOk_by (own := [("_law_chance", 9), ("_law_value", 10)]) (N := n_law) (sc := defScope s_law) (by decide +kernel)) (fun _ _ _ _ _ => (pg_tup rfl (pgs_cons (pg_name (i := 9) sc_law.nd rfl (Or.inl rfl)) (pgs_cons (pg_name (i := 10) sc_law.nd rfl (Or.inl rfl)) pgs_nil)))) (fun _ _ _ _ _ => pts_nil) (fun _ _ _ _ _ => (pv 10))) pa_nil)) (nomark _)) (pss_one (ps_ret pe_bl)) pss_nil)) (pss_one (ps_if (pt_cmpR (op_neD hr.units) (pe_call (ok__law_over_mark T) (hr.mono (by decide)) (by rfl) T.d__law_over_mark.g T.d__law_over_mark.F.kp T.d__law_over_mark.b .nil pass0 (pa_cons (pe_ix ix_tup (pv 3) (pv 5) (fun _ _ => rfl)) (pa_cons (pe_ix ix_list (pv 4) (pv 5) (fun _ _ => rfl)) pa_nil))) (pv 6) (nomark _)) (pss_one (ps_ret pe_bl)) pss_nil)))
      (pss_one (ps_if (pt_not (pt_val (pe_call (ok__law_less T) (hr.mono (by decide)) (by rfl) T.d__law_less.g T.d__law_less.F.kp T.d__law_less.b .nil pass0 (pa_cons (pe_call (ok_reserve T tb_add_all tb_are_prizes) (hr.mono (by decide)) (by rfl) T.d_reserve.g T.d_reserve.F.kp T.d_reserve.b .nil pass0 (pa_cons (pe_tup (pa_cons (pe_call (ok__law_add T) (hr.mono (by decide)) (by rfl) T.d__law_add.g T.d__law_add.F.kp T.d__law_add.b .nil pass0 (pa_cons (pv 6) (pa_cons (pe_tup (pa_cons pe_int (pa_cons pe_int pa_nil))) pa_nil))) (pa_cons (pv 7) pa_nil))) pa_nil)) (pa_cons (pe_ix ix_list (pv 4) (pv 5) (fun _ _ => rfl)) pa_nil))))) (pss_one (ps_ret pe_bl)) pss_nil))))
      (pss_one (ps_if (pt_cmpR (op_neD hr.units) (pe_call (ok__law_mean T tb_add_all tb_are_prizes tb_is_boxes tb_is_seen 3) (hr.mono (by decide)) (by rfl) T.d__law_mean.g T.d__law_mean.F.kp T.d__law_mean.b .nil pass0 (pa_cons (pv 3) (pa_cons (pv 4) (pa_cons (pe_callTy call_tuple_of (by rfl) T.n_tuple (by decide +kernel) (pa_cons (pe_lc (own := [("_law_box_here", 8)]) (g := gName 8) (tt := tYes) rfl sc_law.nd (pi_tup (pv 3)) (blkOk_by (own := [("_law_box_here", 8)]) (N := n_law) (sc := defScope s_law) (by decide +kernel)) (fun _ _ _ _ _ => pg_name (i := 8) sc_law.nd rfl (Or.inl rfl)) (fun _ _ _ _ _ => pts_nil) (fun _ _ _ _ _ => pe_non)) pa_nil)) pa_nil)))) (pe_call (ok_boxes_worth T tb_add_all tb_are_prizes tb_is_boxes) (hr.mono (by decide)) (by rfl) T.d_boxes_worth.g T.d_boxes_worth.F.kp T.d_boxes_worth.b .nil pass0 (pa_cons (pv 3) pa_nil)) (nomark _)) (pss_one (ps_ret pe_bl)) pss_nil))))))
      (pss_one (ps_ret pe_bl)))), ?_⟩
    have ht : TBs (tts T) H := ht0
    refine n_seq ?_
    refine ⟨.ref a, rfl, a, ns, rfl, hS, hl, fun p c H1 ex1 hp nf => ?_⟩
    have t1 := ht.ex ex1
    dsimp only
    refine n_seq ?_
    refine ⟨6, rfl, by decide, by decide, ?_⟩
    refine for_range (lo := 0) (n := 6) (fun i σ G => (∃ y2 y3 y4 y5 y6 y7 y8 y9 y10, σ = [some (.ref a), some (.ref p), y2, y3, y4, y5, y6, y7, y8, y9, y10]) ∧ Pen G p c (20 * i) ∧ TBs (tts T) G) ⟨⟨none, none, none, none, none, none, none, none, none, rfl⟩, hp, t1⟩ ?_ ?_
    · rintro i σ G hi ⟨⟨y2, y3, y4, y5, y6, y7, y8, y9, y10, rfl⟩, hpG, tG⟩
      refine n_name ?_
      dsimp only
      obtain ⟨xG, hxG⟩ := hpG.hasP
      -- the boxes
      refine n_seq ?_
      refine ⟨_, rfl, p, c, 2, _, rfl, hpG, by decide, by decide, by omega, fun r G1 r0 r2 eb1 hp1 => ⟨1, r, rfl, rfl, 1 + r, rfl, by omega, by omega, fun D nD => ?_⟩⟩
      have tA := tG.upd (ys := []) hxG eb1
      obtain ⟨x1, hx1⟩ := hp1.hasP
      have nDp : D ≠ p := by
        rintro rfl
        rw [hx1] at nD
        cases nD
      have nDc : D ≠ c := by
        obtain ⟨_, hxc⟩ := hp1.hasC
        rintro rfl
        rw [hxc] at nD
        cases nD
      obtain ⟨m, hm, m1, m2⟩ : ∃ m : Nat, (1 + r).toNat = m ∧ 1 ≤ m ∧ m ≤ 2 := ⟨_, rfl, by omega, by omega⟩
      rw [hm]
      refine lc_range (lo := 0) (n := m) (fun j G' => Pen G' p c (20 * i + 1 + 5 * j) ∧ TBs (tts T) G' ∧ ∃ zs Bs, G' D = some (.lst zs) ∧ DqAll K p G' zs (Bs.map bxD) ∧ Bs.length = j ∧ ∀ b ∈ Bs, BxOk b ∧ Bd 4 b.1) ⟨hp1.upd nDp nDc, tA.ex (Ex.new nD), [], [], upd_same, .nil, rfl, fun b hb => by cases hb⟩ ?_ ?_
      · rintro j G' hj ⟨hpj, tj, zs, Bs, hz, qs, bl, okB⟩
        refine ⟨rfl, ?_⟩
        refine yes_of ?_
        rw [if_pos rfl]
        obtain ⟨xj, hxj⟩ := hpj.hasP
        refine ⟨_, rfl, p, c, _, rfl, hpj, by omega, fun v b G2 eb2 hp2 qb okb b4 => ?_⟩
        have hz2 := eb2 _ _ nDp hz
        have qs2 := DqAll.exb hxj eb2 _ _ qs
        have t2 := tj.upd (ys := []) hxj eb2
        have zl : zs.length = j := by rw [qs.len, List.length_map, bl]
        refine ⟨zs, hz2, small1000 (by omega), (hp2.upd nDp nDc).mono (by omega), t2.lst hz2, zs ++ [v], Bs ++ [b], upd_same, ?_, by rw [List.length_append, bl]; rfl, fun b' hb' => ?_⟩
        · rw [List.map_append]
          have up : ExB D G2 (upd G2 D (.lst (zs ++ [v]))) := ExB.upd (ExB.refl D _)
          have fb : ∀ b : Bx, flatD (bxD b) = true := flat_bx
          have fl0 : flatDA (Bs.map bxD) = true := flatDA_of fun d hd => by
            obtain ⟨q, _, rfl⟩ := List.mem_map.mp hd
            exact fb q
          exact (DqAll.fl (tupd_l hz2) up _ _ fl0 qs2).append (.cons (Dq.fl (tupd_l hz2) up _ _ (fb b) qb) .nil)
        · rcases List.mem_append.mp hb' with h | h
          · exact okB b' h
          · rw [List.mem_singleton.mp h]
            exact ⟨okb, b4⟩
      rintro G' ⟨hpj, tj, zs, B, hz, qs, bl, okB⟩
      refine ⟨D, zs, rfl, .inl ⟨SqL.of hz, fun t ft => ?_⟩⟩
      have xt := Ex.new (o := .tup zs) ft
      have qB : Dq K p (upd G' t (.tup zs)) (.ref t) (bxsD B) := .tup (SqT.of upd_same) (DqAll.ex xt _ _ qs)
      have hSt : SqT K (upd G' t (.tup zs)) t zs := SqT.of upd_same
      have qs' := DqAll.ex xt _ _ qs
      have hpt := hpj.ex xt
      have tt0 := tj.ex xt
      have zl : zs.length = m := by rw [qs.len, List.length_map, bl]
      generalize upd G' t (.tup zs) = G3 at qB hSt qs' hpt tt0
      clear qs hz hpj tj xt ft nDp nDc tA eb1 hp1 hx1 hpG tG hxG
      dsimp only
      -- the reserves
      refine n_seq ?_
      refine ⟨_, rfl, t, rfl, ⟨zs, hSt⟩, fun D2 nD2 => ?_⟩
      refine lc_tup (K := K) (a := t) (xs := zs) (fun j G' => ExT G3 G' ∧ TBs (tts T) G' ∧ ∃ ms rs, G' D2 = some (.lst ms) ∧ AllFr K 70 G' ms rs ∧ rs.length = j ∧ ∀ (i : Nat) (b : Bx) (z : Rat), B[i]? = some b → rs[i]? = some z → IsRes b z) ⟨Ex.t (Ex.new nD2), tt0.ex (Ex.new nD2), [], [], upd_same, ⟨rfl, fun i x q h => by simp at h⟩, rfl, fun i b z _ h => by simp at h⟩ (fun j G' _ h => h.1.st hSt) ?_ ?_
      · rintro j x G' hx ⟨eT, tj, ms, rs, hz, af, rl, isr⟩
        obtain ⟨b, hb, qb⟩ := (DqAll.xt eT _ _ qs').atG hx
        refine ⟨rfl, ?_⟩
        refine yes_of ?_
        rw [if_pos rfl]
        refine ⟨_, rfl, p, x, b, rfl, qb, (okB b (List.mem_of_getElem? hb)).1, tj, fun z q G4 e4 t4 fz res => ?_⟩
        have hz4 := e4.l hz
        have jl : j < zs.length := (List.getElem?_eq_some_iff.mp hx).1
        refine ⟨ms, hz4, small1000 (by rw [af.1, rl]; omega), fun b' o n hb' => ?_, t4.lst hz4, ms ++ [z], rs ++ [q], upd_same, ?_, by rw [List.length_append, rl]; rfl, fun i' b' z' hb' hz' => ?_⟩
        · rw [upd_ne (ne_of_none hb' nD2)]
          exact (eT.trans e4) b' o n hb'
        · have up : ExB D2 G4 (upd G4 D2 (.lst (ms ++ [z]))) := ExB.upd (ExB.refl D2 _)
          exact ((AllFr.xt e4 af).snoc fz).lst hz4 up
        · by_cases c' : i' < rs.length
          · rw [List.getElem?_append_left c'] at hz'
            exact isr i' b' z' hb' hz'
          · have il := (List.getElem?_eq_some_iff.mp hz').1
            rw [List.length_append] at il
            have : i' = j := by
              have : [q].length = 1 := rfl
              omega
            subst this
            rw [List.getElem?_append_right (by omega), rl, Nat.sub_self] at hz'
            cases hz'
            rw [hb] at hb'
            cases hb'
            exact res
      rintro G4 ⟨eT, t4, ms, rs, hms, af, rl, isr⟩
      have rl' : rs.length = B.length := by rw [rl, zl, bl]
      refine n_name ?_
      dsimp only
      have hmem : ∀ {j : Nat} {b : Bx}, B[j]? = some b → BxOk b ∧ Bd 4 b.1 := fun h => okB _ (List.mem_of_getElem? h)
      refine n_seq ?_
      refine ⟨_, rfl, t, zs, rfl, eT.st hSt, ?_⟩
      refine for_it (walk_enumT (K := K) (a := t) (xs := zs)) (fun j σ G => (∃ y5 y6 y7 y9 y10, σ = [some (.ref a), some (.ref p), some (.int (0 + ((i : Nat) : Int))), some (.ref t), some (.ref D2), y5, y6, y7, y8, y9, y10]) ∧ ExT G4 G ∧ TBs (tts T) G) ⟨⟨_, _, _, _, _, rfl⟩, ExT.refl _, t4⟩ (fun j σ G h => fun h => (eT.trans h.2.1).st hSt) ?_ ?_
      · rintro j x σ G G' hj ⟨⟨y5, y6, y7, y9, y10, rfl⟩, ex, tG⟩ ⟨T0, nx, y, rfl, hT0, rfl, hn, hy⟩
        cases hn
        have EG := eT.trans ex
        obtain ⟨b, hb, qb⟩ := (DqAll.xt EG _ _ qs').atG hy
        obtain ⟨okb, b4⟩ := hmem hb
        have L1 := okb.l1
        have L3 := okb.l3
        have jB : j < B.length := (List.getElem?_eq_some_iff.mp hb).1
        obtain ⟨z, hz⟩ : ∃ z, rs[j]? = some z := ⟨_, List.getElem?_eq_getElem (by omega)⟩
        have res := isr j b z hb hz
        have xT := Ex.new (o := .tup [V.int (j : Nat), y]) hT0
        obtain ⟨a1, x1, c1, ys, rfl, hS1, q1, hS2, hA2⟩ := bx_pair (Dq.ex xT _ _ qb)
        have ET := EG.trans (Ex.t xT)
        have ET4 := ex.trans (Ex.t xT)
        have tT := tG.ex xT
        have hSt' := ET.st hSt
        have qB' := Dq.xt ET _ _ qB
        have hms' := ET4.l hms
        have af' := AllFr.xt ET4 af
        have f1 := q1.frq b4
        have qb' := Dq.ex xT _ _ qb
        generalize hGT : upd G T0 (.tup [V.int (j : Nat), .ref a1]) = GT at ET ET4 tT hSt' qB' hms' af' f1 hS1 q1 hS2 hA2 qb'
        refine ⟨T0, _, rfl, SqT.of (by rw [← hGT]; exact upd_same), rfl, _, _, rfl, _, _, rfl, a1, _, rfl, hS1, rfl, _, _, rfl, _, _, rfl, rfl, rfl, ?_⟩
        dsimp only
        -- the mark
        have mk : ∀ {G : Hp} {σ : L2.St}, Ex GT G → σ[4]? = some (some (.ref D2)) → σ[5]? = some (some (.int (j : Nat))) → EvP (tOp (rIxL K) (tVar 4) (tVar 5)) σ G (Fr K 70 z) := fun {G σ} e h4 h5 => ep_mark (K := K) h4 (e _ _ hms') ⟨af'.1, fun i x q hx hq => (af'.2 i x q hx hq).ex e⟩ h5 hz
        refine n_seq ?_
        -- what stands behind the first test
        have fin : ∀ {G : Hp} {σ : L2.St}, σ = [some (.ref a), some (.ref p), some (.int (0 + ((i : Nat) : Int))), some (.ref t), some (.ref D2), some (.int (j : Nat)), some x1, some (.ref c1), y8, y9, y10] → Ex GT G → tIfS (tNot (tB (tCall (spLt K) [] E0 (tCons (tCall (spRes K (tts T)) [] E0 (tCons (tTup (tCons (tCall (sp2L K (fun x => True) fun q r => q + r) [] E0 (tCons (tVar 6) (tCons (tTup (tCons (tC (V.int 1)) (tCons (tC (V.int 2)) tNil))) tNil))) (tCons (tVar 7) tNil))) tNil)) (tCons (tOp (rIxL K) (tVar 4) (tVar 5)) tNil))))) (tRet (tC (V.bl false))) tNext { nx := fun σ G => (∃ y5 y6 y7 y9 y10, σ = [some (.ref a), some (.ref p), some (.int (0 + ((i : Nat) : Int))), some (.ref t), some (.ref D2), y5, y6, y7, y8, y9, y10]) ∧ ExT G4 G ∧ TBs (tts T) G, rt := Q } σ G := fun {G σ} eσ eG => by
          subst eσ
          have half : EvP (tTup (tCons (tC (V.int 1)) (tCons (tC (V.int 2)) tNil))) [some (.ref a), some (.ref p), some (.int (0 + ((i : Nat) : Int))), some (.ref t), some (.ref D2), some (.int (j : Nat)), some x1, some (.ref c1), y8, y9, y10] G (Fr K 2 (1 / 2)) := ep_lit (by decide +kernel) (by decide +kernel) ⟨by decide +kernel, by decide +kernel⟩
          refine (ep_2L (K := K) (b := 4) (c := 2) (n := 7) (ep_var rfl (f1.ex eG)) half trivial (by decide) rfl) G (Ex.refl _) _ fun z7 G7 e7 f7 => ⟨_, rfl, by show 2 ≤ sizeLine; decide, fun t8 ft8 => ?_⟩
          have x8 := Ex.new (o := .tup [z7, .ref c1]) ft8
          have E8 := eG.trans (e7.trans x8)
          have q8 : Dq K p (upd G7 t8 (.tup [z7, .ref c1])) (.ref t8) (bxD (b.1 + 1 / 2, b.2)) := .tup (SqT.of upd_same) (.cons (Dq.ex x8 _ _ f7.dq) (.cons (.tup (ex_t E8 hS2) (DqAll.ex E8 _ _ hA2)) .nil))
          refine ⟨p, _, _, rfl, q8, okb.more b4, tT.ex E8, fun z9 q9 G9 e9 t9 f9 r9 => ?_⟩
          have lt := res_lower okb.p.toBxP (e := 1 / 2) (by decide +kernel) res r9
          have hms9 := e9.l (E8 _ _ hms')
          have af9 := AllFr.xt e9 ⟨af'.1, fun i x q hx hq => (af'.2 i x q hx hq).ex E8⟩
          refine (ep_mark (K := K) (i := 4) (j := 5) rfl hms9 af9 rfl hz) G9 (Ex.refl _) _ fun mz G10 e10 fmz => ?_
          refine ⟨z9, mz, 70, 70, _, _, rfl, f9.ex e10, fmz, by decide, fun G11 e11 => ⟨_, rfl, ?_⟩⟩
          rw [decide_eq_true lt]
          refine iteF ?_
          exact n_next ⟨⟨_, _, _, _, _, rfl⟩, ET4.trans ((Ex.t E8).trans (e9.trans (Ex.t (e10.trans e11)))), t9.ex (e10.trans e11)⟩
        refine s_if (b := decide (b.1 = 0)) (et_test (ev_eqD (K := K) (ep_var rfl f1) (ep_01 (K := K)))) (fun hc G5 e5 => ?_) (fun hc G5 e5 => ?_)
        · have c0 := of_decide_eq_true hc
          obtain ⟨le, x0, hx0, ex0⟩ := res_free okb.p.toBxP res c0
          refine s_skip (et_is (et_test (ev_neD (K := K) (c := 4) (r := z) (mk e5 rfl rfl) (fun H6 e6 Q6 kq => ?_))) (dec_neQ rfl)) fun G6 e6 => fin rfl (e5.trans e6)
          have hS6 := ex_t (e5.trans e6) hS2
          have hA6 := DqAll.ex (e5.trans e6) _ _ hA2
          refine ⟨_, rfl, c1, rfl, ⟨ys, hS6⟩, fun D5 nD5 => ?_⟩
          refine lc_data (rows := b.2) (rd := pzD) (out := fun x => frd x.2) (c := fun _ => true) walk_tup (fun H e => ex_t e hS6) nD5 hA6 (fun x _ => flat_frd _) (by omega) (fun x v G1 R S hx ex q y n => ?_) fun ws G7 ex7 hw qw => ?_
          · obtain ⟨a2, u1, u2, rfl, hS3, p1, p2⟩ := q.pair
            refine ⟨a2, _, rfl, hS3, rfl, _, _, rfl, _, _, rfl, rfl, rfl, ?_⟩
            refine yes_of ?_
            rw [if_pos rfl]
            exact ⟨_, rfl, y rfl _ _ (Ex.refl _) p2⟩
          have hf : List.filter (fun _ => true) b.2 = b.2 := List.filter_eq_self.mpr fun _ _ => rfl
          rw [hf, show b.2.map (fun x => frd x.2) = (b.2.map fun x => x.2).map frd by rw [List.map_map]; rfl] at qw
          refine ⟨D5, ws, _, 4, rfl, SqL.of hw, AllFr.of qw (fun q hq => by
            obtain ⟨x, hx, rfl⟩ := List.mem_map.mp hq
            exact (okb.pz x hx).vb), (fun z => by
            have := List.map_eq_nil_iff.mp z
            rw [this] at L1
            cases L1), by decide, fun z8 q8 G8 e8 f8 hq8 hm8 => ?_⟩
          have : q8 = z := by
            obtain ⟨x, hx, rfl⟩ := List.mem_map.mp hq8
            refine Rat.le_antisymm (le x hx) ?_
            rw [← ex0]
            exact hm8 _ (List.mem_map.mpr ⟨x0, hx0, rfl⟩)
          subst this
          exact kq z8 G8 (ex7.trans e8) f8
        · have gn := res_gain okb.p.toBxP res
          refine s_skip (et_is (et_test (ev_neD (K := K) (b := 250) (q := b.1) (fun H6 e6 Q6 kq => ?_) (ep_var rfl (f1.ex e5)))) (dec_neQ rfl)) fun G6 e6 => fin rfl (e5.trans e6)
          refine ⟨_, rfl, _, rfl, t, zs, (j : Int), _, rfl, rfl, ex_t (e5.trans e6) hSt', atI_nat hy, ?_⟩
          refine (mk (e5.trans e6) rfl rfl) H6 (Ex.refl _) _ fun mz G7 e7 fmz => ⟨p, _, mz, b, z, rfl, Dq.ex ((e5.trans e6).trans e7) _ _ qb', okb, fmz, fun z8 G8 e8 f8 => kq z8 G8 (e7.trans e8) ?_⟩
          rw [← gn]
          exact f8
      rintro σ G5 ⟨⟨y5', y6', y7', y9', y10', rfl⟩, ex5, t5⟩
      dsimp only
      have E5 := eT.trans ex5
      have hSt5 := E5.st hSt
      have qB5 := Dq.xt E5 _ _ qB
      have hms5 := ex5.l hms
      have af5 := AllFr.xt ex5 af
      have okB1 : ∀ b ∈ B, BxOk b := fun b hb => (okB b hb).1
      have hp5 : Pen G5 p c (20 * i + 1 + 5 * m) := hpt.xt E5
      refine ⟨_, rfl, _, rfl, _, rfl, t, rfl, ⟨zs, hSt5⟩, fun D3 nD3 => ?_⟩
      refine lc_tup (K := K) (a := t) (xs := zs) (fun j G' => Ex G5 G' ∧ G' D3 = some (.lst (List.replicate j V.non))) ⟨Ex.new nD3, upd_same⟩ (fun j G' _ h => ex_t h.1 hSt5) ?_ ?_
      · rintro j x G' hx ⟨e, hz⟩
        have jl : j < zs.length := (List.getElem?_eq_some_iff.mp hx).1
        refine ⟨rfl, ?_⟩
        refine yes_of ?_
        rw [if_pos rfl]
        refine ⟨_, hz, small1000 (by rw [List.length_replicate]; omega), e.mut nD3, ?_⟩
        rw [upd_same, List.replicate_succ']
      rintro G6 ⟨e6, hz6⟩
      refine ⟨D3, _, rfl, .inl ⟨SqL.of hz6, fun t9 ft9 => ?_⟩⟩
      have x9 := Ex.new (o := .tup (List.replicate zs.length V.non)) ft9
      have E9 := e6.trans x9
      have h9 : (upd G6 t9 (.tup (List.replicate zs.length V.non))) t9 = some (.tup ((noS B).map optV)) := by rw [upd_same, nos_rep, zl, bl]
      refine ⟨p, _, D2, t9, ms, B, rs, noS B, rfl, Dq.ex E9 _ _ qB5, E9 _ _ hms5, ⟨af5.1, fun i x q hx hq => (af5.2 i x q hx hq).ex E9⟩, rl', h9, by omega, by omega, okB1, isr, sn_no B, by rw [nn_no]; omega, t5.ex E9, fun z G10 e10 t10 fz => ?_⟩
      refine ⟨_, rfl, p, _, B, rfl, Dq.xn e10 _ _ (Dq.ex E9 _ _ qB5), by omega, by omega, okB1, t10, fun z2 G11 e11 t11 fz2 => ?_⟩
      refine ⟨_, _, (fz.xn e11).dp, fz2.dp, rfl, rfl, _, rfl, ?_⟩
      rw [eqv_fr, decide_eq_true rfl]
      refine iteF ?_
      exact n_next ⟨⟨_, _, _, _, _, _, _, _, _, rfl⟩, (hp5.xn (((Ex.n E9).trans e10).trans e11)).mono (by omega), t11⟩
    · rintro σ G ⟨⟨y2, y3, y4, y5, y6, y7, y8, y9, y10, rfl⟩, hpG, tG⟩
      exact k G
end
def CodeK (oc : Value) (vs : Array Value) (c P : Addr) : Prop := ∃ (file : Str) (tf : Tok) (flags : Int) (tg : Tok) (inF : Bool) (text : Int) (tt : Tok), oc = .type "code" ∧ vs.getD 11 .none = .ref P ∧ vs.getD 18 .none = .str file tf ∧
  vs.getD 7 .none = .int flags tg ∧ vs.getD 9 .none = .bool inF ∧ vs.getD 10 .none = .int text tt ∧ c ≠ P
theorem all_mk {l : PySem.W.OpenLaw} {w : World} {K : PySem.W.Frag} {h : Heap} {mg : Str → Option Value} {fa : Addr} (X : K.In h) (G : h.Ns mainGlobals mg) (hfa : mg "law" = some (.ref fa)) (hE : ∀ y ∈ (["add_all", "are_prizes", "is_boxes", "is_seen"] : List Str), TabE K y mg h)
    {od1 an1 : Option Addr} {sl1 : Array (Option Value)} {oc1 kV1 dc1 pm1 cd1 ct1 : Value} {f1 : Addr}
    {od2 an2 : Option Addr} {sl2 : Array (Option Value)} {oc2 kV2 dc2 pm2 cd2 ct2 : Value} {f2 : Addr}
    {od3 an3 : Option Addr} {sl3 : Array (Option Value)} {oc3 kV3 dc3 pm3 cd3 ct3 : Value} {f3 : Addr}
    {od4 an4 : Option Addr} {sl4 : Array (Option Value)} {oc4 kV4 dc4 pm4 cd4 ct4 : Value} {f4 : Addr}
    {od5 an5 : Option Addr} {sl5 : Array (Option Value)} {oc5 kV5 dc5 pm5 cd5 ct5 : Value} {f5 : Addr}
    {od6 an6 : Option Addr} {sl6 : Array (Option Value)} {oc6 kV6 dc6 pm6 cd6 ct6 : Value} {f6 : Addr}
    {od7 an7 : Option Addr} {sl7 : Array (Option Value)} {oc7 kV7 dc7 pm7 cd7 ct7 : Value} {f7 : Addr}
    {od8 an8 : Option Addr} {sl8 : Array (Option Value)} {oc8 kV8 dc8 pm8 cd8 ct8 : Value} {f8 : Addr}
    {od9 an9 : Option Addr} {sl9 : Array (Option Value)} {oc9 kV9 dc9 pm9 cd9 ct9 : Value} {f9 : Addr}
    {od10 an10 : Option Addr} {sl10 : Array (Option Value)} {oc10 kV10 dc10 pm10 cd10 ct10 : Value} {f10 : Addr}
    {od11 an11 : Option Addr} {sl11 : Array (Option Value)} {oc11 kV11 dc11 pm11 cd11 ct11 : Value} {f11 : Addr}
    {od12 an12 : Option Addr} {sl12 : Array (Option Value)} {oc12 kV12 dc12 pm12 cd12 ct12 : Value} {f12 : Addr}
    {od13 an13 : Option Addr} {sl13 : Array (Option Value)} {oc13 kV13 dc13 pm13 cd13 ct13 : Value} {f13 : Addr}
    {od14 an14 : Option Addr} {sl14 : Array (Option Value)} {oc14 kV14 dc14 pm14 cd14 ct14 : Value} {f14 : Addr}
    {od15 an15 : Option Addr} {sl15 : Array (Option Value)} {oc15 kV15 dc15 pm15 cd15 ct15 : Value} {f15 : Addr}
    {od16 an16 : Option Addr} {sl16 : Array (Option Value)} {oc16 kV16 dc16 pm16 cd16 ct16 : Value} {f16 : Addr}
    {od17 an17 : Option Addr} {sl17 : Array (Option Value)} {oc17 kV17 dc17 pm17 cd17 ct17 : Value} {f17 : Addr}
    {od18 an18 : Option Addr} {sl18 : Array (Option Value)} {oc18 kV18 dc18 pm18 cd18 ct18 : Value} {f18 : Addr}
    {od19 an19 : Option Addr} {sl19 : Array (Option Value)} {oc19 kV19 dc19 pm19 cd19 ct19 : Value} {f19 : Addr}
    {od20 an20 : Option Addr} {sl20 : Array (Option Value)} {oc20 kV20 dc20 pm20 cd20 ct20 : Value} {f20 : Addr}
    {od21 an21 : Option Addr} {sl21 : Array (Option Value)} {oc21 kV21 dc21 pm21 cd21 ct21 : Value} {f21 : Addr}
    {od22 an22 : Option Addr} {sl22 : Array (Option Value)} {oc22 kV22 dc22 pm22 cd22 ct22 : Value} {f22 : Addr}
    {od23 an23 : Option Addr} {sl23 : Array (Option Value)} {oc23 kV23 dc23 pm23 cd23 ct23 : Value} {f23 : Addr}
    {od24 an24 : Option Addr} {sl24 : Array (Option Value)} {oc24 kV24 dc24 pm24 cd24 ct24 : Value} {f24 : Addr}
    {od25 an25 : Option Addr} {sl25 : Array (Option Value)} {oc25 kV25 dc25 pm25 cd25 ct25 : Value} {f25 : Addr}
    {od26 an26 : Option Addr} {sl26 : Array (Option Value)} {oc26 kV26 dc26 pm26 cd26 ct26 : Value} {f26 : Addr}
    {od27 an27 : Option Addr} {sl27 : Array (Option Value)} {oc27 kV27 dc27 pm27 cd27 ct27 : Value} {f27 : Addr}
    {od28 an28 : Option Addr} {sl28 : Array (Option Value)} {oc28 kV28 dc28 pm28 cd28 ct28 : Value} {f28 : Addr}
    {od29 an29 : Option Addr} {sl29 : Array (Option Value)} {oc29 kV29 dc29 pm29 cd29 ct29 : Value} {f29 : Addr}
    {od30 an30 : Option Addr} {sl30 : Array (Option Value)} {oc30 kV30 dc30 pm30 cd30 ct30 : Value} {f30 : Addr}
    {od31 an31 : Option Addr} {sl31 : Array (Option Value)} {oc31 kV31 dc31 pm31 cd31 ct31 : Value} {f31 : Addr}
    {od32 an32 : Option Addr} {sl32 : Array (Option Value)} {oc32 kV32 dc32 pm32 cd32 ct32 : Value} {f32 : Addr}
    {od33 an33 : Option Addr} {sl33 : Array (Option Value)} {oc33 kV33 dc33 pm33 cd33 ct33 : Value} {f33 : Addr}
    {od34 an34 : Option Addr} {sl34 : Array (Option Value)} {oc34 kV34 dc34 pm34 cd34 ct34 : Value} {f34 : Addr}
    {od35 an35 : Option Addr} {sl35 : Array (Option Value)} {oc35 kV35 dc35 pm35 cd35 ct35 : Value} {f35 : Addr}
    {od36 an36 : Option Addr} {sl36 : Array (Option Value)} {oc36 kV36 dc36 pm36 cd36 ct36 : Value} {f36 : Addr}
    {od37 an37 : Option Addr} {sl37 : Array (Option Value)} {oc37 kV37 dc37 pm37 cd37 ct37 : Value} {f37 : Addr}
    {od38 an38 : Option Addr} {sl38 : Array (Option Value)} {oc38 kV38 dc38 pm38 cd38 ct38 : Value} {f38 : Addr}
    {od39 an39 : Option Addr} {sl39 : Array (Option Value)} {oc39 kV39 dc39 pm39 cd39 ct39 : Value} {f39 : Addr}
    {od40 an40 : Option Addr} {sl40 : Array (Option Value)} {oc40 kV40 dc40 pm40 cd40 ct40 : Value} {f40 : Addr}
    {aZ : Addr} {ddZ : Option Addr} {tZ uZ : Tok} {nZ : Nat} {slZ : Array (Option Value)}
    {aO : Addr} {ddO : Option Addr} {tO uO : Tok} {nO : Nat} {slO : Array (Option Value)}
    {tMOST_PRIZES : Tok}
    {tMOST_BOXES : Tok}
    {aLv : Addr} {ddLv : Option Addr} {tLv : Tok} {nLv : Nat} {slLv : Array (Option Value)}
    {cA0 PA0 : Addr} {ocA0 : Value} {ddA0 : Option Addr} {vsA0 : Array Value} {slA0 : Array (Option Value)}
    {cA1 PA1 : Addr} {ocA1 : Value} {ddA1 : Option Addr} {vsA1 : Array Value} {slA1 : Array (Option Value)}
    {cA2 PA2 : Addr} {ocA2 : Value} {ddA2 : Option Addr} {vsA2 : Array Value} {slA2 : Array (Option Value)}
    {cA3 PA3 : Addr} {ocA3 : Value} {ddA3 : Option Addr} {vsA3 : Array Value} {slA3 : Array (Option Value)}
    (a1 : PySem.W.nsIn K mainGlobals "is_whole" = some (some (.ref f1))) (l1 : K.lookup f1 = some ⟨oc1, od1, .func (PySem.W.fnOf "is_whole" "is_whole" (defArgs s_is_whole) (defBody s_is_whole) (defScope s_is_whole) .none kV1 dc1 pm1 an1 cd1 ct1), sl1⟩) (c1 : PySem.W.codeIn K cd1 "is_whole" = true) (k1 : PySem.W.keepIn K (.ref f1) = true)
    (a2 : PySem.W.nsIn K mainGlobals "is_number_below" = some (some (.ref f2))) (l2 : K.lookup f2 = some ⟨oc2, od2, .func (PySem.W.fnOf "is_number_below" "is_number_below" (defArgs s_is_number_below) (defBody s_is_number_below) (defScope s_is_number_below) .none kV2 dc2 pm2 an2 cd2 ct2), sl2⟩) (c2 : PySem.W.codeIn K cd2 "is_number_below" = true) (k2 : PySem.W.keepIn K (.ref f2) = true)
    (a3 : PySem.W.nsIn K mainGlobals "is_fraction" = some (some (.ref f3))) (l3 : K.lookup f3 = some ⟨oc3, od3, .func (PySem.W.fnOf "is_fraction" "is_fraction" (defArgs s_is_fraction) (defBody s_is_fraction) (defScope s_is_fraction) .none kV3 dc3 pm3 an3 cd3 ct3), sl3⟩) (c3 : PySem.W.codeIn K cd3 "is_fraction" = true) (k3 : PySem.W.keepIn K (.ref f3) = true)
    (a4 : PySem.W.nsIn K mainGlobals "is_above_zero" = some (some (.ref f4))) (l4 : K.lookup f4 = some ⟨oc4, od4, .func (PySem.W.fnOf "is_above_zero" "is_above_zero" (defArgs s_is_above_zero) (defBody s_is_above_zero) (defScope s_is_above_zero) .none kV4 dc4 pm4 an4 cd4 ct4), sl4⟩) (c4 : PySem.W.codeIn K cd4 "is_above_zero" = true) (k4 : PySem.W.keepIn K (.ref f4) = true)
    (a5 : PySem.W.nsIn K mainGlobals "is_from_zero" = some (some (.ref f5))) (l5 : K.lookup f5 = some ⟨oc5, od5, .func (PySem.W.fnOf "is_from_zero" "is_from_zero" (defArgs s_is_from_zero) (defBody s_is_from_zero) (defScope s_is_from_zero) .none kV5 dc5 pm5 an5 cd5 ct5), sl5⟩) (c5 : PySem.W.codeIn K cd5 "is_from_zero" = true) (k5 : PySem.W.keepIn K (.ref f5) = true)
    (a6 : PySem.W.nsIn K mainGlobals "lowest" = some (some (.ref f6))) (l6 : K.lookup f6 = some ⟨oc6, od6, .func (PySem.W.fnOf "lowest" "lowest" (defArgs s_lowest) (defBody s_lowest) (defScope s_lowest) .none kV6 dc6 pm6 an6 cd6 ct6), sl6⟩) (c6 : PySem.W.codeIn K cd6 "lowest" = true) (k6 : PySem.W.keepIn K (.ref f6) = true)
    (a7 : PySem.W.nsIn K mainGlobals "subtract" = some (some (.ref f7))) (l7 : K.lookup f7 = some ⟨oc7, od7, .func (PySem.W.fnOf "subtract" "subtract" (defArgs s_subtract) (defBody s_subtract) (defScope s_subtract) .none kV7 dc7 pm7 an7 cd7 ct7), sl7⟩) (c7 : PySem.W.codeIn K cd7 "subtract" = true) (k7 : PySem.W.keepIn K (.ref f7) = true)
    (a8 : PySem.W.nsIn K mainGlobals "multiply" = some (some (.ref f8))) (l8 : K.lookup f8 = some ⟨oc8, od8, .func (PySem.W.fnOf "multiply" "multiply" (defArgs s_multiply) (defBody s_multiply) (defScope s_multiply) .none kV8 dc8 pm8 an8 cd8 ct8), sl8⟩) (c8 : PySem.W.codeIn K cd8 "multiply" = true) (k8 : PySem.W.keepIn K (.ref f8) = true)
    (a9 : PySem.W.nsIn K mainGlobals "divide" = some (some (.ref f9))) (l9 : K.lookup f9 = some ⟨oc9, od9, .func (PySem.W.fnOf "divide" "divide" (defArgs s_divide) (defBody s_divide) (defScope s_divide) .none kV9 dc9 pm9 an9 cd9 ct9), sl9⟩) (c9 : PySem.W.codeIn K cd9 "divide" = true) (k9 : PySem.W.keepIn K (.ref f9) = true)
    (a10 : PySem.W.nsIn K mainGlobals "add_all" = some (some (.ref f10))) (l10 : K.lookup f10 = some ⟨oc10, od10, .func (PySem.W.fnOf "add_all" "add_all" (defArgs s_add_all) (defBody s_add_all) (defScope s_add_all) .none kV10 dc10 pm10 an10 cd10 ct10), sl10⟩) (c10 : PySem.W.codeIn K cd10 "add_all" = true) (k10 : PySem.W.keepIn K (.ref f10) = true)
    (a11 : PySem.W.nsIn K mainGlobals "is_below" = some (some (.ref f11))) (l11 : K.lookup f11 = some ⟨oc11, od11, .func (PySem.W.fnOf "is_below" "is_below" (defArgs s_is_below) (defBody s_is_below) (defScope s_is_below) .none kV11 dc11 pm11 an11 cd11 ct11), sl11⟩) (c11 : PySem.W.codeIn K cd11 "is_below" = true) (k11 : PySem.W.keepIn K (.ref f11) = true)
    (a12 : PySem.W.nsIn K mainGlobals "greatest" = some (some (.ref f12))) (l12 : K.lookup f12 = some ⟨oc12, od12, .func (PySem.W.fnOf "greatest" "greatest" (defArgs s_greatest) (defBody s_greatest) (defScope s_greatest) .none kV12 dc12 pm12 an12 cd12 ct12), sl12⟩) (c12 : PySem.W.codeIn K cd12 "greatest" = true) (k12 : PySem.W.keepIn K (.ref f12) = true)
    (a13 : PySem.W.nsIn K mainGlobals "negative" = some (some (.ref f13))) (l13 : K.lookup f13 = some ⟨oc13, od13, .func (PySem.W.fnOf "negative" "negative" (defArgs s_negative) (defBody s_negative) (defScope s_negative) .none kV13 dc13 pm13 an13 cd13 ct13), sl13⟩) (c13 : PySem.W.codeIn K cd13 "negative" = true) (k13 : PySem.W.keepIn K (.ref f13) = true)
    (a14 : PySem.W.nsIn K mainGlobals "is_prize" = some (some (.ref f14))) (l14 : K.lookup f14 = some ⟨oc14, od14, .func (PySem.W.fnOf "is_prize" "is_prize" (defArgs s_is_prize) (defBody s_is_prize) (defScope s_is_prize) .none kV14 dc14 pm14 an14 cd14 ct14), sl14⟩) (c14 : PySem.W.codeIn K cd14 "is_prize" = true) (k14 : PySem.W.keepIn K (.ref f14) = true)
    (a15 : PySem.W.nsIn K mainGlobals "are_prizes" = some (some (.ref f15))) (l15 : K.lookup f15 = some ⟨oc15, od15, .func (PySem.W.fnOf "are_prizes" "are_prizes" (defArgs s_are_prizes) (defBody s_are_prizes) (defScope s_are_prizes) .none kV15 dc15 pm15 an15 cd15 ct15), sl15⟩) (c15 : PySem.W.codeIn K cd15 "are_prizes" = true) (k15 : PySem.W.keepIn K (.ref f15) = true)
    (a16 : PySem.W.nsIn K mainGlobals "is_box" = some (some (.ref f16))) (l16 : K.lookup f16 = some ⟨oc16, od16, .func (PySem.W.fnOf "is_box" "is_box" (defArgs s_is_box) (defBody s_is_box) (defScope s_is_box) .none kV16 dc16 pm16 an16 cd16 ct16), sl16⟩) (c16 : PySem.W.codeIn K cd16 "is_box" = true) (k16 : PySem.W.keepIn K (.ref f16) = true)
    (a17 : PySem.W.nsIn K mainGlobals "is_boxes" = some (some (.ref f17))) (l17 : K.lookup f17 = some ⟨oc17, od17, .func (PySem.W.fnOf "is_boxes" "is_boxes" (defArgs s_is_boxes) (defBody s_is_boxes) (defScope s_is_boxes) .none kV17 dc17 pm17 an17 cd17 ct17), sl17⟩) (c17 : PySem.W.codeIn K cd17 "is_boxes" = true) (k17 : PySem.W.keepIn K (.ref f17) = true)
    (a18 : PySem.W.nsIn K mainGlobals "require_box" = some (some (.ref f18))) (l18 : K.lookup f18 = some ⟨oc18, od18, .func (PySem.W.fnOf "require_box" "require_box" (defArgs s_require_box) (defBody s_require_box) (defScope s_require_box) .none kV18 dc18 pm18 an18 cd18 ct18), sl18⟩) (c18 : PySem.W.codeIn K cd18 "require_box" = true) (k18 : PySem.W.keepIn K (.ref f18) = true)
    (a19 : PySem.W.nsIn K mainGlobals "require_boxes" = some (some (.ref f19))) (l19 : K.lookup f19 = some ⟨oc19, od19, .func (PySem.W.fnOf "require_boxes" "require_boxes" (defArgs s_require_boxes) (defBody s_require_boxes) (defScope s_require_boxes) .none kV19 dc19 pm19 an19 cd19 ct19), sl19⟩) (c19 : PySem.W.codeIn K cd19 "require_boxes" = true) (k19 : PySem.W.keepIn K (.ref f19) = true)
    (a20 : PySem.W.nsIn K mainGlobals "is_seen" = some (some (.ref f20))) (l20 : K.lookup f20 = some ⟨oc20, od20, .func (PySem.W.fnOf "is_seen" "is_seen" (defArgs s_is_seen) (defBody s_is_seen) (defScope s_is_seen) .none kV20 dc20 pm20 an20 cd20 ct20), sl20⟩) (c20 : PySem.W.codeIn K cd20 "is_seen" = true) (k20 : PySem.W.keepIn K (.ref f20) = true)
    (a21 : PySem.W.nsIn K mainGlobals "require_boxes_and_seen" = some (some (.ref f21))) (l21 : K.lookup f21 = some ⟨oc21, od21, .func (PySem.W.fnOf "require_boxes_and_seen" "require_boxes_and_seen" (defArgs s_require_boxes_and_seen) (defBody s_require_boxes_and_seen) (defScope s_require_boxes_and_seen) .none kV21 dc21 pm21 an21 cd21 ct21), sl21⟩) (c21 : PySem.W.codeIn K cd21 "require_boxes_and_seen" = true) (k21 : PySem.W.keepIn K (.ref f21) = true)
    (a22 : PySem.W.nsIn K mainGlobals "worth_of_opening" = some (some (.ref f22))) (l22 : K.lookup f22 = some ⟨oc22, od22, .func (PySem.W.fnOf "worth_of_opening" "worth_of_opening" (defArgs s_worth_of_opening) (defBody s_worth_of_opening) (defScope s_worth_of_opening) .none kV22 dc22 pm22 an22 cd22 ct22), sl22⟩) (c22 : PySem.W.codeIn K cd22 "worth_of_opening" = true) (k22 : PySem.W.keepIn K (.ref f22) = true)
    (a23 : PySem.W.nsIn K mainGlobals "moves_of" = some (some (.ref f23))) (l23 : K.lookup f23 = some ⟨oc23, od23, .func (PySem.W.fnOf "moves_of" "moves_of" (defArgs s_moves_of) (defBody s_moves_of) (defScope s_moves_of) .none kV23 dc23 pm23 an23 cd23 ct23), sl23⟩) (c23 : PySem.W.codeIn K cd23 "moves_of" = true) (k23 : PySem.W.keepIn K (.ref f23) = true)
    (a24 : PySem.W.nsIn K mainGlobals "best_worth_of" = some (some (.ref f24))) (l24 : K.lookup f24 = some ⟨oc24, od24, .func (PySem.W.fnOf "best_worth_of" "best_worth_of" (defArgs s_best_worth_of) (defBody s_best_worth_of) (defScope s_best_worth_of) .none kV24 dc24 pm24 an24 cd24 ct24), sl24⟩) (c24 : PySem.W.codeIn K cd24 "best_worth_of" = true) (k24 : PySem.W.keepIn K (.ref f24) = true)
    (a25 : PySem.W.nsIn K mainGlobals "reserve" = some (some (.ref f25))) (l25 : K.lookup f25 = some ⟨oc25, od25, .func (PySem.W.fnOf "reserve" "reserve" (defArgs s_reserve) (defBody s_reserve) (defScope s_reserve) .none kV25 dc25 pm25 an25 cd25 ct25), sl25⟩) (c25 : PySem.W.codeIn K cd25 "reserve" = true) (k25 : PySem.W.keepIn K (.ref f25) = true)
    (a26 : PySem.W.nsIn K mainGlobals "boxes_worth" = some (some (.ref f26))) (l26 : K.lookup f26 = some ⟨oc26, od26, .func (PySem.W.fnOf "boxes_worth" "boxes_worth" (defArgs s_boxes_worth) (defBody s_boxes_worth) (defScope s_boxes_worth) .none kV26 dc26 pm26 an26 cd26 ct26), sl26⟩) (c26 : PySem.W.codeIn K cd26 "boxes_worth" = true) (k26 : PySem.W.keepIn K (.ref f26) = true)
    (a27 : PySem.W.nsIn K mainGlobals "best_moves" = some (some (.ref f27))) (l27 : K.lookup f27 = some ⟨oc27, od27, .func (PySem.W.fnOf "best_moves" "best_moves" (defArgs s_best_moves) (defBody s_best_moves) (defScope s_best_moves) .none kV27 dc27 pm27 an27 cd27 ct27), sl27⟩) (c27 : PySem.W.codeIn K cd27 "best_moves" = true) (k27 : PySem.W.keepIn K (.ref f27) = true)
    (a28 : PySem.W.nsIn K mainGlobals "_law_pen" = some (some (.ref f28))) (l28 : K.lookup f28 = some ⟨oc28, od28, .func (PySem.W.fnOf "_law_pen" "_law_pen" (defArgs s__law_pen) (defBody s__law_pen) (defScope s__law_pen) .none kV28 dc28 pm28 an28 cd28 ct28), sl28⟩) (c28 : PySem.W.codeIn K cd28 "_law_pen" = true) (k28 : PySem.W.keepIn K (.ref f28) = true)
    (a29 : PySem.W.nsIn K mainGlobals "_law_next" = some (some (.ref f29))) (l29 : K.lookup f29 = some ⟨oc29, od29, .func (PySem.W.fnOf "_law_next" "_law_next" (defArgs s__law_next) (defBody s__law_next) (defScope s__law_next) .none kV29 dc29 pm29 an29 cd29 ct29), sl29⟩) (c29 : PySem.W.codeIn K cd29 "_law_next" = true) (k29 : PySem.W.keepIn K (.ref f29) = true)
    (a30 : PySem.W.nsIn K mainGlobals "_law_draw" = some (some (.ref f30))) (l30 : K.lookup f30 = some ⟨oc30, od30, .func (PySem.W.fnOf "_law_draw" "_law_draw" (defArgs s__law_draw) (defBody s__law_draw) (defScope s__law_draw) .none kV30 dc30 pm30 an30 cd30 ct30), sl30⟩) (c30 : PySem.W.codeIn K cd30 "_law_draw" = true) (k30 : PySem.W.keepIn K (.ref f30) = true)
    (a31 : PySem.W.nsIn K mainGlobals "_law_low" = some (some (.ref f31))) (l31 : K.lookup f31 = some ⟨oc31, od31, .func (PySem.W.fnOf "_law_low" "_law_low" (defArgs s__law_low) (defBody s__law_low) (defScope s__law_low) .none kV31 dc31 pm31 an31 cd31 ct31), sl31⟩) (c31 : PySem.W.codeIn K cd31 "_law_low" = true) (k31 : PySem.W.keepIn K (.ref f31) = true)
    (a32 : PySem.W.nsIn K mainGlobals "_law_add" = some (some (.ref f32))) (l32 : K.lookup f32 = some ⟨oc32, od32, .func (PySem.W.fnOf "_law_add" "_law_add" (defArgs s__law_add) (defBody s__law_add) (defScope s__law_add) .none kV32 dc32 pm32 an32 cd32 ct32), sl32⟩) (c32 : PySem.W.codeIn K cd32 "_law_add" = true) (k32 : PySem.W.keepIn K (.ref f32) = true)
    (a33 : PySem.W.nsIn K mainGlobals "_law_mul" = some (some (.ref f33))) (l33 : K.lookup f33 = some ⟨oc33, od33, .func (PySem.W.fnOf "_law_mul" "_law_mul" (defArgs s__law_mul) (defBody s__law_mul) (defScope s__law_mul) .none kV33 dc33 pm33 an33 cd33 ct33), sl33⟩) (c33 : PySem.W.codeIn K cd33 "_law_mul" = true) (k33 : PySem.W.keepIn K (.ref f33) = true)
    (a34 : PySem.W.nsIn K mainGlobals "_law_less" = some (some (.ref f34))) (l34 : K.lookup f34 = some ⟨oc34, od34, .func (PySem.W.fnOf "_law_less" "_law_less" (defArgs s__law_less) (defBody s__law_less) (defScope s__law_less) .none kV34 dc34 pm34 an34 cd34 ct34), sl34⟩) (c34 : PySem.W.codeIn K cd34 "_law_less" = true) (k34 : PySem.W.keepIn K (.ref f34) = true)
    (a35 : PySem.W.nsIn K mainGlobals "_law_most" = some (some (.ref f35))) (l35 : K.lookup f35 = some ⟨oc35, od35, .func (PySem.W.fnOf "_law_most" "_law_most" (defArgs s__law_most) (defBody s__law_most) (defScope s__law_most) .none kV35 dc35 pm35 an35 cd35 ct35), sl35⟩) (c35 : PySem.W.codeIn K cd35 "_law_most" = true) (k35 : PySem.W.keepIn K (.ref f35) = true)
    (a36 : PySem.W.nsIn K mainGlobals "_law_box" = some (some (.ref f36))) (l36 : K.lookup f36 = some ⟨oc36, od36, .func (PySem.W.fnOf "_law_box" "_law_box" (defArgs s__law_box) (defBody s__law_box) (defScope s__law_box) .none kV36 dc36 pm36 an36 cd36 ct36), sl36⟩) (c36 : PySem.W.codeIn K cd36 "_law_box" = true) (k36 : PySem.W.keepIn K (.ref f36) = true)
    (a37 : PySem.W.nsIn K mainGlobals "_law_over_mark" = some (some (.ref f37))) (l37 : K.lookup f37 = some ⟨oc37, od37, .func (PySem.W.fnOf "_law_over_mark" "_law_over_mark" (defArgs s__law_over_mark) (defBody s__law_over_mark) (defScope s__law_over_mark) .none kV37 dc37 pm37 an37 cd37 ct37), sl37⟩) (c37 : PySem.W.codeIn K cd37 "_law_over_mark" = true) (k37 : PySem.W.keepIn K (.ref f37) = true)
    (a38 : PySem.W.nsIn K mainGlobals "_law_step" = some (some (.ref f38))) (l38 : K.lookup f38 = some ⟨oc38, od38, .func (PySem.W.fnOf "_law_step" "_law_step" (defArgs s__law_step) (defBody s__law_step) (defScope s__law_step) .none kV38 dc38 pm38 an38 cd38 ct38), sl38⟩) (c38 : PySem.W.codeIn K cd38 "_law_step" = true) (k38 : PySem.W.keepIn K (.ref f38) = true)
    (a39 : PySem.W.nsIn K mainGlobals "_law_mean" = some (some (.ref f39))) (l39 : K.lookup f39 = some ⟨oc39, od39, .func (PySem.W.fnOf "_law_mean" "_law_mean" (defArgs s__law_mean) (defBody s__law_mean) (defScope s__law_mean) .none kV39 dc39 pm39 an39 cd39 ct39), sl39⟩) (c39 : PySem.W.codeIn K cd39 "_law_mean" = true) (k39 : PySem.W.keepIn K (.ref f39) = true)
    (a40 : PySem.W.nsIn K mainGlobals "law" = some (some (.ref f40))) (l40 : K.lookup f40 = some ⟨oc40, od40, .func (PySem.W.fnOf "law" "law" (defArgs s_law) (defBody s_law) (defScope s_law) .none kV40 dc40 pm40 an40 cd40 ct40), sl40⟩) (c40 : PySem.W.codeIn K cd40 "law" = true) (k40 : PySem.W.keepIn K (.ref f40) = true)
    (z_abs : PySem.W.nsIn K mainGlobals "abs" = some none)
    (z_all : PySem.W.nsIn K mainGlobals "all" = some none)
    (z_bool : PySem.W.nsIn K mainGlobals "bool" = some none)
    (z_enumerate : PySem.W.nsIn K mainGlobals "enumerate" = some none)
    (z_int : PySem.W.nsIn K mainGlobals "int" = some none)
    (z_isinstance : PySem.W.nsIn K mainGlobals "isinstance" = some none)
    (z_len : PySem.W.nsIn K mainGlobals "len" = some none)
    (z_list : PySem.W.nsIn K mainGlobals "list" = some none)
    (z_range : PySem.W.nsIn K mainGlobals "range" = some none)
    (z_sorted : PySem.W.nsIn K mainGlobals "sorted" = some none)
    (z_sum : PySem.W.nsIn K mainGlobals "sum" = some none)
    (z_tuple : PySem.W.nsIn K mainGlobals "tuple" = some none)
    (z_zip : PySem.W.nsIn K mainGlobals "zip" = some none)
    (z_gcd : PySem.W.nsIn K mainGlobals "gcd" = some (some (.builtin "math.gcd")))
    (zZ : PySem.W.nsIn K mainGlobals "ZERO" = some (some (.ref aZ))) (lZ : K.lookup aZ = some ⟨.type "tuple", ddZ, .seq #[.int 0 tZ, .int 1 uZ] nZ, slZ⟩)
    (zO : PySem.W.nsIn K mainGlobals "ONE" = some (some (.ref aO))) (lO : K.lookup aO = some ⟨.type "tuple", ddO, .seq #[.int 1 tO, .int 1 uO] nO, slO⟩)
    (zMOST_PRIZES : PySem.W.nsIn K mainGlobals "MOST_PRIZES" = some (some (.int 3 tMOST_PRIZES)))
    (zMOST_BOXES : PySem.W.nsIn K mainGlobals "MOST_BOXES" = some (some (.int 3 tMOST_BOXES)))
    (zLv : PySem.W.nsIn K mainGlobals "LEAVE" = some (some (.ref aLv))) (lLv : K.lookup aLv = some ⟨.type "tuple", ddLv, .seq #[.str "leave" tLv] nLv, slLv⟩)
    (tA0 : cd10 = .ref cA0) (uA0 : K.lookup cA0 = some ⟨ocA0, ddA0, .fields vsA0, slA0⟩) (vA0 : vsA0[11]? = some (.ref PA0)) (nA0 : K.lookup PA0 = none) (hA0 : CodeK ocA0 vsA0 cA0 PA0)
    (tA1 : cd15 = .ref cA1) (uA1 : K.lookup cA1 = some ⟨ocA1, ddA1, .fields vsA1, slA1⟩) (vA1 : vsA1[11]? = some (.ref PA1)) (nA1 : K.lookup PA1 = none) (hA1 : CodeK ocA1 vsA1 cA1 PA1)
    (tA2 : cd17 = .ref cA2) (uA2 : K.lookup cA2 = some ⟨ocA2, ddA2, .fields vsA2, slA2⟩) (vA2 : vsA2[11]? = some (.ref PA2)) (nA2 : K.lookup PA2 = none) (hA2 : CodeK ocA2 vsA2 cA2 PA2)
    (tA3 : cd20 = .ref cA3) (uA3 : K.lookup cA3 = some ⟨ocA3, ddA3, .fields vsA3, slA3⟩) (vA3 : vsA3[11]? = some (.ref PA3)) (nA3 : K.lookup PA3 = none) (hA3 : CodeK ocA3 vsA3 cA3 PA3) :
    ∃ (fd : FuncData) (cs : List (Addr × Addr)), (∀ p ∈ cs, h.get? p.2 = some { cls := .none, data := .fields #[] }) ∧ (∀ p ∈ cs, K.lookup p.2 = none) ∧ (∀ p ∈ cs, PySem.W.CodeHd h p.1 p.2) ∧ (∀ (s : Shared) (u : Value), BindsTo s fd ⟨[u], []⟩ [("_law_script", u)]) ∧
      (∀ (H : Hp) (a : Addr) (ns : List Int), ns.length ≤ 63 → (∀ p ∈ cs, H p.2 = some (.tbl #[])) → SqL K H a (ns.map V.int) → spLaw K [PA0, PA1, PA2, PA3] [.ref a] H (fun v _ => v = .bl true) E0) ∧
      ∀ base : Heap, K.In base → base.Ns mainGlobals mg → (∀ p ∈ cs, GxR.TabB base mg p.1 p.2) → FnG l.prog w K mg base 31 fa fd ["_law_script"] (spLaw K [PA0, PA1, PA2, PA3]) := by
  have e := hfa.symm.trans (PySem.W.mg_of X G a40)
  cases e
  let T : Txt K mg := {
    d_is_whole := ⟨f1, _, fun_mk (st := s_is_whole) l1 c1 k1, (fun_mk (st := s_is_whole) l1 c1 k1).binds (ps := ["value"]) (fun _ _ _ _ _ _ us hl => match us, hl with | [_], _ => rfl), PySem.W.mg_of X G a1⟩,
    d_is_number_below := ⟨f2, _, fun_mk (st := s_is_number_below) l2 c2 k2, (fun_mk (st := s_is_number_below) l2 c2 k2).binds (ps := ["value", "count"]) (fun _ _ _ _ _ _ us hl => match us, hl with | [_, _], _ => rfl), PySem.W.mg_of X G a2⟩,
    d_is_fraction := ⟨f3, _, fun_mk (st := s_is_fraction) l3 c3 k3, (fun_mk (st := s_is_fraction) l3 c3 k3).binds (ps := ["value"]) (fun _ _ _ _ _ _ us hl => match us, hl with | [_], _ => rfl), PySem.W.mg_of X G a3⟩,
    d_is_above_zero := ⟨f4, _, fun_mk (st := s_is_above_zero) l4 c4 k4, (fun_mk (st := s_is_above_zero) l4 c4 k4).binds (ps := ["value"]) (fun _ _ _ _ _ _ us hl => match us, hl with | [_], _ => rfl), PySem.W.mg_of X G a4⟩,
    d_is_from_zero := ⟨f5, _, fun_mk (st := s_is_from_zero) l5 c5 k5, (fun_mk (st := s_is_from_zero) l5 c5 k5).binds (ps := ["value"]) (fun _ _ _ _ _ _ us hl => match us, hl with | [_], _ => rfl), PySem.W.mg_of X G a5⟩,
    d_lowest := ⟨f6, _, fun_mk (st := s_lowest) l6 c6 k6, (fun_mk (st := s_lowest) l6 c6 k6).binds (ps := ["top", "bottom"]) (fun _ _ _ _ _ _ us hl => match us, hl with | [_, _], _ => rfl), PySem.W.mg_of X G a6⟩,
    d_subtract := ⟨f7, _, fun_mk (st := s_subtract) l7 c7 k7, (fun_mk (st := s_subtract) l7 c7 k7).binds (ps := ["one", "other"]) (fun _ _ _ _ _ _ us hl => match us, hl with | [_, _], _ => rfl), PySem.W.mg_of X G a7⟩,
    d_multiply := ⟨f8, _, fun_mk (st := s_multiply) l8 c8 k8, (fun_mk (st := s_multiply) l8 c8 k8).binds (ps := ["one", "other"]) (fun _ _ _ _ _ _ us hl => match us, hl with | [_, _], _ => rfl), PySem.W.mg_of X G a8⟩,
    d_divide := ⟨f9, _, fun_mk (st := s_divide) l9 c9 k9, (fun_mk (st := s_divide) l9 c9 k9).binds (ps := ["one", "other"]) (fun _ _ _ _ _ _ us hl => match us, hl with | [_, _], _ => rfl), PySem.W.mg_of X G a9⟩,
    d_add_all := ⟨f10, _, fun_mk (st := s_add_all) l10 c10 k10, (fun_mk (st := s_add_all) l10 c10 k10).binds (ps := ["fractions"]) (fun _ _ _ _ _ _ us hl => match us, hl with | [_], _ => rfl), PySem.W.mg_of X G a10⟩,
    d_is_below := ⟨f11, _, fun_mk (st := s_is_below) l11 c11 k11, (fun_mk (st := s_is_below) l11 c11 k11).binds (ps := ["one", "other"]) (fun _ _ _ _ _ _ us hl => match us, hl with | [_, _], _ => rfl), PySem.W.mg_of X G a11⟩,
    d_greatest := ⟨f12, _, fun_mk (st := s_greatest) l12 c12 k12, (fun_mk (st := s_greatest) l12 c12 k12).binds (ps := ["fractions"]) (fun _ _ _ _ _ _ us hl => match us, hl with | [_], _ => rfl), PySem.W.mg_of X G a12⟩,
    d_negative := ⟨f13, _, fun_mk (st := s_negative) l13 c13 k13, (fun_mk (st := s_negative) l13 c13 k13).binds (ps := ["amount"]) (fun _ _ _ _ _ _ us hl => match us, hl with | [_], _ => rfl), PySem.W.mg_of X G a13⟩,
    d_is_prize := ⟨f14, _, fun_mk (st := s_is_prize) l14 c14 k14, (fun_mk (st := s_is_prize) l14 c14 k14).binds (ps := ["value"]) (fun _ _ _ _ _ _ us hl => match us, hl with | [_], _ => rfl), PySem.W.mg_of X G a14⟩,
    d_are_prizes := ⟨f15, _, fun_mk (st := s_are_prizes) l15 c15 k15, (fun_mk (st := s_are_prizes) l15 c15 k15).binds (ps := ["value"]) (fun _ _ _ _ _ _ us hl => match us, hl with | [_], _ => rfl), PySem.W.mg_of X G a15⟩,
    d_is_box := ⟨f16, _, fun_mk (st := s_is_box) l16 c16 k16, (fun_mk (st := s_is_box) l16 c16 k16).binds (ps := ["value"]) (fun _ _ _ _ _ _ us hl => match us, hl with | [_], _ => rfl), PySem.W.mg_of X G a16⟩,
    d_is_boxes := ⟨f17, _, fun_mk (st := s_is_boxes) l17 c17 k17, (fun_mk (st := s_is_boxes) l17 c17 k17).binds (ps := ["value"]) (fun _ _ _ _ _ _ us hl => match us, hl with | [_], _ => rfl), PySem.W.mg_of X G a17⟩,
    d_require_box := ⟨f18, _, fun_mk (st := s_require_box) l18 c18 k18, (fun_mk (st := s_require_box) l18 c18 k18).binds (ps := ["value"]) (fun _ _ _ _ _ _ us hl => match us, hl with | [_], _ => rfl), PySem.W.mg_of X G a18⟩,
    d_require_boxes := ⟨f19, _, fun_mk (st := s_require_boxes) l19 c19 k19, (fun_mk (st := s_require_boxes) l19 c19 k19).binds (ps := ["value"]) (fun _ _ _ _ _ _ us hl => match us, hl with | [_], _ => rfl), PySem.W.mg_of X G a19⟩,
    d_is_seen := ⟨f20, _, fun_mk (st := s_is_seen) l20 c20 k20, (fun_mk (st := s_is_seen) l20 c20 k20).binds (ps := ["boxes", "value"]) (fun _ _ _ _ _ _ us hl => match us, hl with | [_, _], _ => rfl), PySem.W.mg_of X G a20⟩,
    d_require_boxes_and_seen := ⟨f21, _, fun_mk (st := s_require_boxes_and_seen) l21 c21 k21, (fun_mk (st := s_require_boxes_and_seen) l21 c21 k21).binds (ps := ["boxes", "seen"]) (fun _ _ _ _ _ _ us hl => match us, hl with | [_, _], _ => rfl), PySem.W.mg_of X G a21⟩,
    d_worth_of_opening := ⟨f22, _, fun_mk (st := s_worth_of_opening) l22 c22 k22, (fun_mk (st := s_worth_of_opening) l22 c22 k22).binds (ps := ["boxes", "seen", "number", "known"]) (fun _ _ _ _ _ _ us hl => match us, hl with | [_, _, _, _], _ => rfl), PySem.W.mg_of X G a22⟩,
    d_moves_of := ⟨f23, _, fun_mk (st := s_moves_of) l23 c23 k23, (fun_mk (st := s_moves_of) l23 c23 k23).binds (ps := ["boxes", "seen", "known"]) (fun _ _ _ _ _ _ us hl => match us, hl with | [_, _, _], _ => rfl), PySem.W.mg_of X G a23⟩,
    d_best_worth_of := ⟨f24, _, fun_mk (st := s_best_worth_of) l24 c24 k24, (fun_mk (st := s_best_worth_of) l24 c24 k24).binds (ps := ["boxes", "seen", "known"]) (fun _ _ _ _ _ _ us hl => match us, hl with | [_, _, _], _ => rfl), PySem.W.mg_of X G a24⟩,
    d_reserve := ⟨f25, _, fun_mk (st := s_reserve) l25 c25 k25, (fun_mk (st := s_reserve) l25 c25 k25).binds (ps := ["box"]) (fun _ _ _ _ _ _ us hl => match us, hl with | [_], _ => rfl), PySem.W.mg_of X G a25⟩,
    d_boxes_worth := ⟨f26, _, fun_mk (st := s_boxes_worth) l26 c26 k26, (fun_mk (st := s_boxes_worth) l26 c26 k26).binds (ps := ["boxes"]) (fun _ _ _ _ _ _ us hl => match us, hl with | [_], _ => rfl), PySem.W.mg_of X G a26⟩,
    d_best_moves := ⟨f27, _, fun_mk (st := s_best_moves) l27 c27 k27, (fun_mk (st := s_best_moves) l27 c27 k27).binds (ps := ["boxes", "seen"]) (fun _ _ _ _ _ _ us hl => match us, hl with | [_, _], _ => rfl), PySem.W.mg_of X G a27⟩,
    d__law_pen := ⟨f28, _, fun_mk (st := s__law_pen) l28 c28 k28, (fun_mk (st := s__law_pen) l28 c28 k28).binds (ps := ["_law_script"]) (fun _ _ _ _ _ _ us hl => match us, hl with | [_], _ => rfl), PySem.W.mg_of X G a28⟩,
    d__law_next := ⟨f29, _, fun_mk (st := s__law_next) l29 c29 k29, (fun_mk (st := s__law_next) l29 c29 k29).binds (ps := ["_law_pen_here"]) (fun _ _ _ _ _ _ us hl => match us, hl with | [_], _ => rfl), PySem.W.mg_of X G a29⟩,
    d__law_draw := ⟨f30, _, fun_mk (st := s__law_draw) l30 c30 k30, (fun_mk (st := s__law_draw) l30 c30 k30).binds (ps := ["_law_pen_here", "_law_under"]) (fun _ _ _ _ _ _ us hl => match us, hl with | [_, _], _ => rfl), PySem.W.mg_of X G a30⟩,
    d__law_low := ⟨f31, _, fun_mk (st := s__law_low) l31 c31 k31, (fun_mk (st := s__law_low) l31 c31 k31).binds (ps := ["_law_top", "_law_bottom"]) (fun _ _ _ _ _ _ us hl => match us, hl with | [_, _], _ => rfl), PySem.W.mg_of X G a31⟩,
    d__law_add := ⟨f32, _, fun_mk (st := s__law_add) l32 c32 k32, (fun_mk (st := s__law_add) l32 c32 k32).binds (ps := ["_law_one", "_law_other"]) (fun _ _ _ _ _ _ us hl => match us, hl with | [_, _], _ => rfl), PySem.W.mg_of X G a32⟩,
    d__law_mul := ⟨f33, _, fun_mk (st := s__law_mul) l33 c33 k33, (fun_mk (st := s__law_mul) l33 c33 k33).binds (ps := ["_law_one", "_law_other"]) (fun _ _ _ _ _ _ us hl => match us, hl with | [_, _], _ => rfl), PySem.W.mg_of X G a33⟩,
    d__law_less := ⟨f34, _, fun_mk (st := s__law_less) l34 c34 k34, (fun_mk (st := s__law_less) l34 c34 k34).binds (ps := ["_law_one", "_law_other"]) (fun _ _ _ _ _ _ us hl => match us, hl with | [_, _], _ => rfl), PySem.W.mg_of X G a34⟩,
    d__law_most := ⟨f35, _, fun_mk (st := s__law_most) l35 c35 k35, (fun_mk (st := s__law_most) l35 c35 k35).binds (ps := ["_law_some"]) (fun _ _ _ _ _ _ us hl => match us, hl with | [_], _ => rfl), PySem.W.mg_of X G a35⟩,
    d__law_box := ⟨f36, _, fun_mk (st := s__law_box) l36 c36 k36, (fun_mk (st := s__law_box) l36 c36 k36).binds (ps := ["_law_pen_here"]) (fun _ _ _ _ _ _ us hl => match us, hl with | [_], _ => rfl), PySem.W.mg_of X G a36⟩,
    d__law_over_mark := ⟨f37, _, fun_mk (st := s__law_over_mark) l37 c37 k37, (fun_mk (st := s__law_over_mark) l37 c37 k37).binds (ps := ["_law_box_here", "_law_mark"]) (fun _ _ _ _ _ _ us hl => match us, hl with | [_, _], _ => rfl), PySem.W.mg_of X G a37⟩,
    d__law_step := ⟨f38, _, fun_mk (st := s__law_step) l38 c38 k38, (fun_mk (st := s__law_step) l38 c38 k38).binds (ps := ["_law_boxes", "_law_marks", "_law_seen"]) (fun _ _ _ _ _ _ us hl => match us, hl with | [_, _, _], _ => rfl), PySem.W.mg_of X G a38⟩,
    d__law_mean := ⟨f39, _, fun_mk (st := s__law_mean) l39 c39 k39, (fun_mk (st := s__law_mean) l39 c39 k39).binds (ps := ["_law_boxes", "_law_marks", "_law_seen"]) (fun _ _ _ _ _ _ us hl => match us, hl with | [_, _, _], _ => rfl), PySem.W.mg_of X G a39⟩,
    d_law := ⟨fa, _, fun_mk (st := s_law) l40 c40 k40, (fun_mk (st := s_law) l40 c40 k40).binds (ps := ["_law_script"]) (fun _ _ _ _ _ _ us hl => match us, hl with | [_], _ => rfl), PySem.W.mg_of X G a40⟩,
    n_abs := PySem.W.mg_none_of X G z_abs,
    n_all := PySem.W.mg_none_of X G z_all,
    n_bool := PySem.W.mg_none_of X G z_bool,
    n_enumerate := PySem.W.mg_none_of X G z_enumerate,
    n_int := PySem.W.mg_none_of X G z_int,
    n_isinstance := PySem.W.mg_none_of X G z_isinstance,
    n_len := PySem.W.mg_none_of X G z_len,
    n_list := PySem.W.mg_none_of X G z_list,
    n_range := PySem.W.mg_none_of X G z_range,
    n_sorted := PySem.W.mg_none_of X G z_sorted,
    n_sum := PySem.W.mg_none_of X G z_sum,
    n_tuple := PySem.W.mg_none_of X G z_tuple,
    n_zip := PySem.W.mg_none_of X G z_zip,
    n_gcd := PySem.W.mg_of X G z_gcd,
    a_ZERO := aZ, c_ZERO := PySem.W.mg_of X G zZ, k_ZERO := ⟨_, _, _, lZ, rfl, rfl, (by show 2 ≤ sizeLine; decide), .cons ⟨_, rfl⟩ (.cons ⟨_, rfl⟩ .nil)⟩,
    a_ONE := aO, c_ONE := PySem.W.mg_of X G zO, k_ONE := ⟨_, _, _, lO, rfl, rfl, (by show 2 ≤ sizeLine; decide), .cons ⟨_, rfl⟩ (.cons ⟨_, rfl⟩ .nil)⟩,
    t_MOST_PRIZES := tMOST_PRIZES, c_MOST_PRIZES := PySem.W.mg_of X G zMOST_PRIZES,
    t_MOST_BOXES := tMOST_BOXES, c_MOST_BOXES := PySem.W.mg_of X G zMOST_BOXES,
    a_LEAVE := aLv, c_LEAVE := PySem.W.mg_of X G zLv, k_LEAVE := ⟨_, _, _, lLv, rfl, rfl, (by show 1 ≤ sizeLine; decide), .cons ⟨_, rfl⟩ .nil⟩,
    c_add_all := cA0, P_add_all := PA0, h_add_all := tA0,
    c_are_prizes := cA1, P_are_prizes := PA1, h_are_prizes := tA1,
    c_is_boxes := cA2, P_is_boxes := PA2, h_is_boxes := tA2,
    c_is_seen := cA3, P_is_seen := PA3, h_is_seen := tA3 }
  refine ⟨PySem.W.fnOf "law" "law" (defArgs s_law) (defBody s_law) (defScope s_law) .none kV40 dc40 pm40 an40 cd40 ct40, [(cA0, PA0), (cA1, PA1), (cA2, PA2), (cA3, PA3)], ?_, ?_, ?_, fun s v => .of_eq rfl, ?_, fun base _ _ hb => ok_law T (hb (cA0, PA0) (by simp)) (hb (cA1, PA1) (by simp)) (hb (cA2, PA2) (by simp)) (hb (cA3, PA3) (by simp))⟩
  · intro p hp
    simp only [List.mem_cons, List.not_mem_nil, or_false] at hp
    rcases hp with rfl | rfl | rfl | rfl
    · exact hE "add_all" (by simp) f10 cA0 PA0 _ _ _ _ _ _ (PySem.W.mg_of X G a10) l10 rfl tA0 uA0 vA0
    · exact hE "are_prizes" (by simp) f15 cA1 PA1 _ _ _ _ _ _ (PySem.W.mg_of X G a15) l15 rfl tA1 uA1 vA1
    · exact hE "is_boxes" (by simp) f17 cA2 PA2 _ _ _ _ _ _ (PySem.W.mg_of X G a17) l17 rfl tA2 uA2 vA2
    · exact hE "is_seen" (by simp) f20 cA3 PA3 _ _ _ _ _ _ (PySem.W.mg_of X G a20) l20 rfl tA3 uA3 vA3
  · intro p hp
    simp only [List.mem_cons, List.not_mem_nil, or_false] at hp
    rcases hp with rfl | rfl | rfl | rfl
    · exact nA0
    · exact nA1
    · exact nA2
    · exact nA3
  · intro p hp
    simp only [List.mem_cons, List.not_mem_nil, or_false] at hp
    rcases hp with rfl | rfl | rfl | rfl
    · (obtain ⟨file, tf, flags, tg, inF, text, tt, h1, h2, h3, h4, h5, h6, h7⟩ := hA0; exact ⟨_, vsA0, file, tf, flags, tg, inF, text, tt, X _ _ uA0, h1, rfl, vA0, h2, h3, h4, h5, h6, h7⟩)
    · (obtain ⟨file, tf, flags, tg, inF, text, tt, h1, h2, h3, h4, h5, h6, h7⟩ := hA1; exact ⟨_, vsA1, file, tf, flags, tg, inF, text, tt, X _ _ uA1, h1, rfl, vA1, h2, h3, h4, h5, h6, h7⟩)
    · (obtain ⟨file, tf, flags, tg, inF, text, tt, h1, h2, h3, h4, h5, h6, h7⟩ := hA2; exact ⟨_, vsA2, file, tf, flags, tg, inF, text, tt, X _ _ uA2, h1, rfl, vA2, h2, h3, h4, h5, h6, h7⟩)
    · (obtain ⟨file, tf, flags, tg, inF, text, tt, h1, h2, h3, h4, h5, h6, h7⟩ := hA3; exact ⟨_, vsA3, file, tf, flags, tg, inF, text, tt, X _ _ uA3, h1, rfl, vA3, h2, h3, h4, h5, h6, h7⟩)
  · intro H a ns hl hT hS
    refine ⟨a, ns, rfl, hS, hl, fun t ht => ?_, fun _ => rfl⟩
    simp only [List.mem_cons, List.not_mem_nil, or_false] at ht
    rcases ht with ht | ht | ht | ht
    · rw [ht]; exact ⟨#[], hT (cA0, PA0) (by simp), trivial⟩
    · rw [ht]; exact ⟨#[], hT (cA1, PA1) (by simp), trivial⟩
    · rw [ht]; exact ⟨#[], hT (cA2, PA2) (by simp), trivial⟩
    · rw [ht]; exact ⟨#[], hT (cA3, PA3) (by simp), trivial⟩
end Jf
open PySem PySem.W PyProof.Rows
set_option maxRecDepth 100000 in
set_option maxHeartbeats 0 in
theorem PySem.Challenge.cw_onenumber_k60_reserves_of_boxes_holds : PySem.Challenge.rw_onenumber_k60_reserves_of_boxes.Holds := by
  w_on; o_law; k_head; (case hw => w_witness2)
  k_fill
  refine' Jf.walk_ofGL (l := PySem.Challenge.rw_onenumber_k60_reserves_of_boxes) (n := 63) (k := 31) (x := "_law_script") (ys := ["add_all", "are_prizes", "is_boxes", "is_seen"]) (sp := Jf.spLaw) (PA := [_, _, _, _]) rfl (by decide) rfl ⟨rfl, by decide, by decide⟩ (by decide) (fun w h Y => PySem.W.kIn_of Y) ?F
  case F =>
    intro w mg fa h KX G hmg hE
    refine' Jf.all_mk KX G hmg hE ?a1 ?l1 ?c1 ?k1 ?a2 ?l2 ?c2 ?k2 ?a3 ?l3 ?c3 ?k3 ?a4 ?l4 ?c4 ?k4 ?a5 ?l5 ?c5 ?k5 ?a6 ?l6 ?c6 ?k6 ?a7 ?l7 ?c7 ?k7 ?a8 ?l8 ?c8 ?k8 ?a9 ?l9 ?c9 ?k9 ?a10 ?l10 ?c10 ?k10 ?a11 ?l11 ?c11 ?k11 ?a12 ?l12 ?c12 ?k12 ?a13 ?l13 ?c13 ?k13 ?a14 ?l14 ?c14 ?k14 ?a15 ?l15 ?c15 ?k15 ?a16 ?l16 ?c16 ?k16 ?a17 ?l17 ?c17 ?k17 ?a18 ?l18 ?c18 ?k18 ?a19 ?l19 ?c19 ?k19 ?a20 ?l20 ?c20 ?k20 ?a21 ?l21 ?c21 ?k21 ?a22 ?l22 ?c22 ?k22 ?a23 ?l23 ?c23 ?k23 ?a24 ?l24 ?c24 ?k24 ?a25 ?l25 ?c25 ?k25 ?a26 ?l26 ?c26 ?k26 ?a27 ?l27 ?c27 ?k27 ?a28 ?l28 ?c28 ?k28 ?a29 ?l29 ?c29 ?k29 ?a30 ?l30 ?c30 ?k30 ?a31 ?l31 ?c31 ?k31 ?a32 ?l32 ?c32 ?k32 ?a33 ?l33 ?c33 ?k33 ?a34 ?l34 ?c34 ?k34 ?a35 ?l35 ?c35 ?k35 ?a36 ?l36 ?c36 ?k36 ?a37 ?l37 ?c37 ?k37 ?a38 ?l38 ?c38 ?k38 ?a39 ?l39 ?c39 ?k39 ?a40 ?l40 ?c40 ?k40 ?z_abs ?z_all ?z_bool ?z_enumerate ?z_int ?z_isinstance ?z_len ?z_list ?z_range ?z_sorted ?z_sum ?z_tuple ?z_zip ?z_gcd ?zZ ?lZ ?zO ?lO ?zMOST_PRIZES ?zMOST_BOXES ?zLv ?lLv ?tA0 ?uA0 ?vA0 ?nA0 ?hA0 ?tA1 ?uA1 ?vA1 ?nA1 ?hA1 ?tA2 ?uA2 ?vA2 ?nA2 ?hA2 ?tA3 ?uA3 ?vA3 ?nA3 ?hA3
    (case a1 => k_is)
    (case l1 => k_is)
    (case c1 => k_is)
    (case k1 => k_is)
    (case a2 => k_is)
    (case l2 => k_is)
    (case c2 => k_is)
    (case k2 => k_is)
    (case a3 => k_is)
    (case l3 => k_is)
    (case c3 => k_is)
    (case k3 => k_is)
    (case a4 => k_is)
    (case l4 => k_is)
    (case c4 => k_is)
    (case k4 => k_is)
    (case a5 => k_is)
    (case l5 => k_is)
    (case c5 => k_is)
    (case k5 => k_is)
    (case a6 => k_is)
    (case l6 => k_is)
    (case c6 => k_is)
    (case k6 => k_is)
    (case a7 => k_is)
    (case l7 => k_is)
    (case c7 => k_is)
    (case k7 => k_is)
    (case a8 => k_is)
    (case l8 => k_is)
    (case c8 => k_is)
    (case k8 => k_is)
    (case a9 => k_is)
    (case l9 => k_is)
    (case c9 => k_is)
    (case k9 => k_is)
    (case a10 => k_is)
    (case l10 => k_is)
    (case c10 => k_is)
    (case k10 => k_is)
    (case a11 => k_is)
    (case l11 => k_is)
    (case c11 => k_is)
    (case k11 => k_is)
    (case a12 => k_is)
    (case l12 => k_is)
    (case c12 => k_is)
    (case k12 => k_is)
    (case a13 => k_is)
    (case l13 => k_is)
    (case c13 => k_is)
    (case k13 => k_is)
    (case a14 => k_is)
    (case l14 => k_is)
    (case c14 => k_is)
    (case k14 => k_is)
    (case a15 => k_is)
    (case l15 => k_is)
    (case c15 => k_is)
    (case k15 => k_is)
    (case a16 => k_is)
    (case l16 => k_is)
    (case c16 => k_is)
    (case k16 => k_is)
    (case a17 => k_is)
    (case l17 => k_is)
    (case c17 => k_is)
    (case k17 => k_is)
    (case a18 => k_is)
    (case l18 => k_is)
    (case c18 => k_is)
    (case k18 => k_is)
    (case a19 => k_is)
    (case l19 => k_is)
    (case c19 => k_is)
    (case k19 => k_is)
    (case a20 => k_is)
    (case l20 => k_is)
    (case c20 => k_is)
    (case k20 => k_is)
    (case a21 => k_is)
    (case l21 => k_is)
    (case c21 => k_is)
    (case k21 => k_is)
    (case a22 => k_is)
    (case l22 => k_is)
    (case c22 => k_is)
    (case k22 => k_is)
    (case a23 => k_is)
    (case l23 => k_is)
    (case c23 => k_is)
    (case k23 => k_is)
    (case a24 => k_is)
    (case l24 => k_is)
    (case c24 => k_is)
    (case k24 => k_is)
    (case a25 => k_is)
    (case l25 => k_is)
    (case c25 => k_is)
    (case k25 => k_is)
    (case a26 => k_is)
    (case l26 => k_is)
    (case c26 => k_is)
    (case k26 => k_is)
    (case a27 => k_is)
    (case l27 => k_is)
    (case c27 => k_is)
    (case k27 => k_is)
    (case a28 => k_is)
    (case l28 => k_is)
    (case c28 => k_is)
    (case k28 => k_is)
    (case a29 => k_is)
    (case l29 => k_is)
    (case c29 => k_is)
    (case k29 => k_is)
    (case a30 => k_is)
    (case l30 => k_is)
    (case c30 => k_is)
    (case k30 => k_is)
    (case a31 => k_is)
    (case l31 => k_is)
    (case c31 => k_is)
    (case k31 => k_is)
    (case a32 => k_is)
    (case l32 => k_is)
    (case c32 => k_is)
    (case k32 => k_is)
    (case a33 => k_is)
    (case l33 => k_is)
    (case c33 => k_is)
    (case k33 => k_is)
    (case a34 => k_is)
    (case l34 => k_is)
    (case c34 => k_is)
    (case k34 => k_is)
    (case a35 => k_is)
    (case l35 => k_is)
    (case c35 => k_is)
    (case k35 => k_is)
    (case a36 => k_is)
    (case l36 => k_is)
    (case c36 => k_is)
    (case k36 => k_is)
    (case a37 => k_is)
    (case l37 => k_is)
    (case c37 => k_is)
    (case k37 => k_is)
    (case a38 => k_is)
    (case l38 => k_is)
    (case c38 => k_is)
    (case k38 => k_is)
    (case a39 => k_is)
    (case l39 => k_is)
    (case c39 => k_is)
    (case k39 => k_is)
    (case a40 => k_is)
    (case l40 => k_is)
    (case c40 => k_is)
    (case k40 => k_is)
    (case z_abs => k_is)
    (case z_all => k_is)
    (case z_bool => k_is)
    (case z_enumerate => k_is)
    (case z_int => k_is)
    (case z_isinstance => k_is)
    (case z_len => k_is)
    (case z_list => k_is)
    (case z_range => k_is)
    (case z_sorted => k_is)
    (case z_sum => k_is)
    (case z_tuple => k_is)
    (case z_zip => k_is)
    (case z_gcd => k_is)
    (case zZ => k_is)
    (case lZ => k_is)
    (case zO => k_is)
    (case lO => k_is)
    (case zMOST_PRIZES => k_is)
    (case zMOST_BOXES => k_is)
    (case zLv => k_is)
    (case lLv => k_is)
    (case tA0 => rfl)
    (case uA0 => k_is)
    (case vA0 => rfl)
    (case nA0 => rfl)
    (case hA0 => exact ⟨_, _, _, _, _, _, _, rfl, rfl, rfl, rfl, rfl, rfl, by decide⟩)
    (case tA1 => rfl)
    (case uA1 => k_is)
    (case vA1 => rfl)
    (case nA1 => rfl)
    (case hA1 => exact ⟨_, _, _, _, _, _, _, rfl, rfl, rfl, rfl, rfl, rfl, by decide⟩)
    (case tA2 => rfl)
    (case uA2 => k_is)
    (case vA2 => rfl)
    (case nA2 => rfl)
    (case hA2 => exact ⟨_, _, _, _, _, _, _, rfl, rfl, rfl, rfl, rfl, rfl, by decide⟩)
    (case tA3 => rfl)
    (case uA3 => k_is)
    (case vA3 => rfl)
    (case nA3 => rfl)
    (case hA3 => exact ⟨_, _, _, _, _, _, _, rfl, rfl, rfl, rfl, rfl, rfl, by decide⟩)
