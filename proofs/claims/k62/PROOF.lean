import PyProof.Rows.All
import Wide.All
import OpenK.AllK
import Wide.FinOn
import HandS.ForMost
import HandS.Evl
import HandS.Gcd
import HandS.Wide
import HandS.Flow
import HandS.NoneIn
import HandS.IsInst
import HandS.Exc
import HandS.TryOnly
import HandS.ExcOwn
import HandS.WordsExc
import HandS.ExcInit
import HandS.ExcField
import HandS.ExcIs
import HandS.SetFor
import HandS.TupLe
import HandS.TryMany
import HandS.TupMul
import HandS.TupAny
import HandS.Style
import KE.KExcIs
import PyProof.ReprRoads
import HandS.AnyAll
import PyProof.WalksPairs
import PyProof.GenCompT
import PyProof.SumAny
import HandS.GenList
import KE.KTypeName
import PyProof.ListCopy
import KE.KRevSl
import HandS.Walk
import HandS.Rev
import PyProof.EnumMake
import PyProof.TupleIter
import KE.GoesEnumKw
import HandS.SortKw
import PySem.Challenge.RW_onenumber_k62_projects
set_option Elab.async false
set_option linter.all false
/-! fractions as core rationals -/
namespace Jf
theorem gcd_pos {n d : Int} (hd : d ≠ 0) : 0 < Nat.gcd n.natAbs d.natAbs := Nat.gcd_pos_of_pos_right _ (by omega)
theorem low_split (n d : Int) (hd : d ≠ 0) : ∃ (g : Nat) (k m : Int), g = Nat.gcd n.natAbs d.natAbs ∧ 0 < g ∧ n = (g : Int) * k ∧ d = (g : Int) * m ∧ (Rat.divInt n d).num = d.sign * k ∧ ((Rat.divInt n d).den : Int) = d.sign * m := by
  have h1 : ((Nat.gcd n.natAbs d.natAbs : Nat) : Int) ∣ n := Int.ofNat_dvd_left.mpr (Nat.gcd_dvd_left _ _)
  have h2 : ((Nat.gcd n.natAbs d.natAbs : Nat) : Int) ∣ d := Int.ofNat_dvd_left.mpr (Nat.gcd_dvd_right _ _)
  obtain ⟨k, hk⟩ := h1
  obtain ⟨m, hm⟩ := h2
  have hp := gcd_pos (n := n) hd
  refine ⟨_, k, m, rfl, hp, hk, hm, ?_, ?_⟩
  · have hg : (d.gcd n : Nat) = Nat.gcd n.natAbs d.natAbs := by rw [Int.gcd_comm]; rfl
    rw [Rat.num_divInt, hg]
    generalize hG : Nat.gcd n.natAbs d.natAbs = G at *
    have hG0 : (G : Int) ≠ 0 := by omega
    rw [hk, ← Int.mul_assoc, Int.mul_comm d.sign (G : Int), Int.mul_assoc, Int.mul_ediv_cancel_left _ hG0]
  · have hg : (d.gcd n : Nat) = Nat.gcd n.natAbs d.natAbs := by rw [Int.gcd_comm]; rfl
    rw [Rat.den_divInt, if_neg hd, hg]
    generalize hG : Nat.gcd n.natAbs d.natAbs = G at *
    have hG0 : (G : Int) ≠ 0 := by omega
    have e : d.natAbs = G * m.natAbs := by rw [hm, Int.natAbs_mul]; rfl
    rw [e, Nat.mul_div_cancel_left _ hp]
    have hs : d.sign = m.sign := by rw [hm, Int.sign_mul, Int.sign_natCast_of_ne_zero (by omega), Int.one_mul]
    rw [hs, Int.sign_mul_self]
/-- the program's lowest -/
theorem lowest_eq (n d : Int) (hd : d ≠ 0) :
    n.fdiv (if d < 0 then -((Nat.gcd n.natAbs d.natAbs : Nat) : Int) else ((Nat.gcd n.natAbs d.natAbs : Nat) : Int)) = (Rat.divInt n d).num ∧
    d.fdiv (if d < 0 then -((Nat.gcd n.natAbs d.natAbs : Nat) : Int) else ((Nat.gcd n.natAbs d.natAbs : Nat) : Int)) = ((Rat.divInt n d).den : Int) := by
  obtain ⟨g, k, m, hg, hp, hn, hm, e1, e2⟩ := low_split n d hd
  rw [← hg, e1, e2]
  have hg0 : (g : Int) ≠ 0 := by omega
  by_cases h : d < 0
  · rw [if_pos h, Int.sign_eq_neg_one_of_neg h]
    have hn' : n = (-(g : Int)) * (-k) := by rw [hn]; grind
    have hm' : d = (-(g : Int)) * (-m) := by rw [hm]; grind
    have hg1 : (-(g : Int)) ≠ 0 := by omega
    constructor
    · rw [hn', Int.mul_fdiv_cancel_left _ hg1]; omega
    · rw [hm', Int.mul_fdiv_cancel_left _ hg1]; omega
  · rw [if_neg h, Int.sign_eq_one_of_pos (by omega)]
    constructor
    · rw [hn, Int.mul_fdiv_cancel_left _ hg0]; omega
    · rw [hm, Int.mul_fdiv_cancel_left _ hg0]; omega
/-- the law's low -/
theorem low_eq (n d : Int) (hd : d ≠ 0) (s : Int) (hs : s = if d < 0 then -1 else 1) :
    (s * n) / ((Nat.gcd n.natAbs d.natAbs : Nat) : Int) = (Rat.divInt n d).num ∧ (s * d) / ((Nat.gcd n.natAbs d.natAbs : Nat) : Int) = ((Rat.divInt n d).den : Int) := by
  obtain ⟨g, k, m, hg, hp, hn, hm, e1, e2⟩ := low_split n d hd
  rw [← hg, e1, e2]
  have hg0 : (g : Int) ≠ 0 := by omega
  have hs' : s = d.sign := by
    by_cases h : d < 0
    · rw [hs, if_pos h, Int.sign_eq_neg_one_of_neg h]
    · rw [hs, if_neg h, Int.sign_eq_one_of_pos (by omega)]
  rw [hs']
  constructor
  · rw [show d.sign * n = (g : Int) * (d.sign * k) by rw [hn]; grind, Int.mul_ediv_cancel_left _ hg0]
  · rw [show d.sign * d = (g : Int) * (d.sign * m) by
      generalize d.sign = z
      rw [hm]; grind, Int.mul_ediv_cancel_left _ hg0]
theorem num_le (n d : Int) (hd : d ≠ 0) : (Rat.divInt n d).num.natAbs ≤ n.natAbs := by
  obtain ⟨g, k, m, hg, hp, hn, hm, e1, e2⟩ := low_split n d hd
  have hs : d.sign.natAbs = 1 := by rw [Int.natAbs_sign, if_neg hd]
  rw [e1, Int.natAbs_mul, hs, hn, Int.natAbs_mul, Nat.one_mul]
  exact Nat.le_mul_of_pos_left _ (by omega)
theorem den_le (n d : Int) (hd : d ≠ 0) : (Rat.divInt n d).den ≤ d.natAbs := by
  obtain ⟨g, k, m, hg, hp, hn, hm, e1, e2⟩ := low_split n d hd
  have hs : d.sign.natAbs = 1 := by rw [Int.natAbs_sign, if_neg hd]
  have e3 : (Rat.divInt n d).den = m.natAbs := by
    have := congrArg Int.natAbs e2
    rw [Int.natAbs_mul, hs, Nat.one_mul] at this
    simpa using this
  rw [e3]
  have : d.natAbs = g * m.natAbs := by rw [hm, Int.natAbs_mul]; rfl
  rw [this]
  exact Nat.le_mul_of_pos_left _ (by omega)
theorem den_pos (q : Rat) : (0 : Int) < (q.den : Int) := by have := q.den_pos; omega
theorem den_ne (q : Rat) : (q.den : Int) ≠ 0 := by have := q.den_pos; omega
theorem add_eq (q r : Rat) : Rat.divInt (q.num * r.den + r.num * q.den) (q.den * r.den) = q + r := by
  rw [← Rat.divInt_add_divInt _ _ (den_ne q) (den_ne r), Rat.num_divInt_den, Rat.num_divInt_den]
theorem sub_eq (q r : Rat) : Rat.divInt (q.num * r.den - r.num * q.den) (q.den * r.den) = q - r := by
  rw [← Rat.divInt_sub_divInt _ _ (den_ne q) (den_ne r), Rat.num_divInt_den, Rat.num_divInt_den]
theorem mul_eq (q r : Rat) : Rat.divInt (q.num * r.num) (q.den * r.den) = q * r := by
  rw [← Rat.divInt_mul_divInt, Rat.num_divInt_den, Rat.num_divInt_den]
theorem div_eq (q r : Rat) : Rat.divInt (q.num * r.den) (q.den * r.num) = q / r := by
  rw [Rat.div_def, Rat.inv_def, ← Rat.divInt_mul_divInt, Rat.num_divInt_den]
theorem num_ne {r : Rat} (h : r ≠ 0) : r.num ≠ 0 := fun e => h (Rat.num_eq_zero.mp e)
theorem red (q : Rat) : Nat.gcd q.num.natAbs (q.den : Int).natAbs = 1 := by
  have := q.reduced
  simpa [Nat.Coprime] using this
/-- compare -/
def cmp (q r : Rat) : Int := if q = r then 0 else if r < q then 1 else -1
theorem cmp_eq (q r : Rat) : (if (q - r).num = 0 then (0 : Int) else if 0 < (q - r).num then 1 else -1) = cmp q r := by
  unfold cmp
  have e : (q - r).num = 0 ↔ q = r := by
    rw [Rat.num_eq_zero]
    constructor <;> intro h <;> grind
  by_cases h : q = r
  · rw [if_pos (e.mpr h), if_pos h]
  · rw [if_neg (fun z => h (e.mp z)), if_neg h]
    have e2 : 0 < (q - r).num ↔ r < q := by
      have h1 : (0 : Int) ≤ (q - r).num ↔ 0 ≤ q - r := Rat.num_nonneg
      have h2 : (q - r).num ≠ 0 := fun z => h (e.mp z)
      constructor
      · intro z
        have := h1.mp (by omega)
        grind
      · intro z
        have : 0 ≤ q - r := by grind
        have := h1.mpr this
        omega
    by_cases z : r < q
    · rw [if_pos z, if_pos (e2.mpr z)]
    · rw [if_neg z, if_neg (fun y => z (e2.mp y))]
/-! bounds by powers of two -/
theorem lt_pow_mul {a b m n : Nat} (ha : a < 2 ^ m) (hb : b < 2 ^ n) : a * b < 2 ^ (m + n) := by
  rw [Nat.pow_add]
  exact Nat.mul_lt_mul'' ha hb
theorem lt_pow_add {a b n : Nat} (ha : a < 2 ^ n) (hb : b < 2 ^ n) : a + b < 2 ^ (n + 1) := by
  rw [Nat.pow_succ]; omega
theorem lt_pow_mono {a m n : Nat} (h : m ≤ n) (ha : a < 2 ^ m) : a < 2 ^ n := Nat.lt_of_lt_of_le ha (Nat.pow_le_pow_right (by decide) h)
theorem abs_add_le (a b : Int) : (a + b).natAbs ≤ a.natAbs + b.natAbs := by omega
theorem abs_sub_le (a b : Int) : (a - b).natAbs ≤ a.natAbs + b.natAbs := by omega
/-- a fraction within b bits -/
def Bd (b : Nat) (q : Rat) : Prop := q.num.natAbs < 2 ^ b ∧ q.den < 2 ^ b
theorem Bd.mono {b c : Nat} {q : Rat} (h : b ≤ c) (x : Bd b q) : Bd c q := ⟨lt_pow_mono h x.1, lt_pow_mono h x.2⟩
theorem bd_divInt {n d : Int} {b : Nat} (hd : d ≠ 0) (hn : n.natAbs < 2 ^ b) (hb : d.natAbs < 2 ^ b) : Bd b (Rat.divInt n d) :=
  ⟨Nat.lt_of_le_of_lt (num_le n d hd) hn, Nat.lt_of_le_of_lt (den_le n d hd) hb⟩
theorem bn_mul {i j : Int} {a b : Nat} (ha : i.natAbs < 2 ^ a) (hb : j.natAbs < 2 ^ b) : (i * j).natAbs < 2 ^ (a + b) := by
  rw [Int.natAbs_mul]
  exact lt_pow_mul ha hb
theorem bn_add {i j : Int} {a : Nat} (ha : i.natAbs < 2 ^ a) (hb : j.natAbs < 2 ^ a) : (i + j).natAbs < 2 ^ (a + 1) :=
  Nat.lt_of_le_of_lt (abs_add_le i j) (lt_pow_add ha hb)
theorem bn_sub {i j : Int} {a : Nat} (ha : i.natAbs < 2 ^ a) (hb : j.natAbs < 2 ^ a) : (i - j).natAbs < 2 ^ (a + 1) :=
  Nat.lt_of_le_of_lt (abs_sub_le i j) (lt_pow_add ha hb)
theorem bd_den {q : Rat} {b : Nat} (x : Bd b q) : (q.den : Int).natAbs < 2 ^ b := by
  have := x.2
  simpa using this
/-! Euclid's steps end -/
def euc : Nat → Nat → Nat → Nat × Nat
  | 0, a, b => (a, b)
  | n + 1, a, b => euc n b (a % b)
theorem mod_half {a b : Nat} (hb : 0 < b) (h : b ≤ a) : 2 * (a % b) < a := by
  have h1 : a % b < b := Nat.mod_lt _ hb
  have h2 := Nat.div_add_mod a b
  have h3 : 1 ≤ a / b := Nat.div_pos h hb
  have h4 : b * 1 ≤ b * (a / b) := Nat.mul_le_mul_left b h3
  omega
/-- one step halves the product once b is at most a -/
theorem step_half {a b n : Nat} (hb : 0 < b) (h : b ≤ a) (hp : a * b < 2 ^ (n + 1)) : b * (a % b) < 2 ^ n := by
  have h1 := mod_half hb h
  have h2 : b * (2 * (a % b)) ≤ b * a := Nat.mul_le_mul_left b (Nat.le_of_lt h1)
  rw [Nat.pow_succ] at hp
  have h3 : b * (2 * (a % b)) = 2 * (b * (a % b)) := Nat.mul_left_comm _ _ _
  have h4 : b * a = a * b := Nat.mul_comm _ _
  omega
/-- where one is with n steps left: small enough to end -/
def EucEnds (n a b : Nat) : Prop := b = 0 ∨ (b ≤ a ∧ 1 ≤ n ∧ a * b < 2 ^ (n - 1)) ∨ (2 ≤ n ∧ a * b < 2 ^ (n - 2))
theorem EucEnds.step {n a b : Nat} (hb : b ≠ 0) (h : EucEnds (n + 1) a b) : EucEnds n b (a % b) := by
  have hb0 : 0 < b := Nat.pos_of_ne_zero hb
  have hlt : a % b < b := Nat.mod_lt _ hb0
  rcases h with h | ⟨h1, h2, h3⟩ | ⟨h2, h3⟩
  · exact absurd h hb
  · cases n with
    | zero =>
      have : a * b < 1 := h3
      have h5 : 0 < a * b := Nat.mul_pos (Nat.lt_of_lt_of_le hb0 h1) hb0
      omega
    | succ n =>
      refine .inr (.inl ⟨Nat.le_of_lt hlt, by omega, ?_⟩)
      exact step_half hb0 h1 h3
  · have h6 : b * (a % b) ≤ a * b := by
      rw [Nat.mul_comm]
      exact Nat.mul_le_mul_right b (Nat.mod_le a b)
    refine .inr (.inl ⟨Nat.le_of_lt hlt, by omega, ?_⟩)
    exact Nat.lt_of_le_of_lt h6 (by simpa using h3)
theorem EucEnds.zero {a b : Nat} (h : EucEnds 0 a b) : b = 0 := by
  rcases h with h | ⟨_, h, _⟩ | ⟨h, _⟩ <;> omega
theorem gcd_step {a b g : Nat} (h : Nat.gcd a b = g) : Nat.gcd b (a % b) = g := by
  rw [← h, Nat.gcd_comm a b, Nat.gcd_rec b a, Nat.gcd_comm]
theorem gcd_end {a g : Nat} (h : Nat.gcd a 0 = g) : a = g := by rw [← h, Nat.gcd_zero_right]
end Jf
set_option Elab.async false
set_option linter.all false
namespace Jf
theorem cmp_64 (q r : Rat) : (cmp q r).natAbs < 2 ^ 64 := by
  have : (cmp q r).natAbs ≤ 1 := by unfold cmp; split <;> (try split) <;> decide
  exact Nat.lt_of_le_of_lt this (by decide)
theorem cmp_anti (q r : Rat) : cmp q r = 0 - cmp r q := by unfold cmp; grind
theorem cmp_add (q r s : Rat) : cmp (q + s) (r + s) = cmp q r := by unfold cmp; grind
theorem cmp_sub (q r : Rat) : cmp (q - r) 0 = cmp q r := by unfold cmp; grind
theorem cmp_zero (q r : Rat) : cmp q r = 0 ↔ q = r := by unfold cmp; grind
theorem cmp_trans {q r s : Rat} (h1 : 0 ≤ cmp q r) (h2 : 0 ≤ cmp r s) : ¬ cmp q s < 0 := by unfold cmp at *; grind
theorem cmp_mul (q r s : Rat) : cmp (q * s) (r * s) = cmp q r * cmp s 0 := by
  unfold cmp
  by_cases h : q = r
  · subst h; simp
  · by_cases h0 : s = 0
    · subst h0; simp
    · have e1 : (q - r) * s ≠ 0 := by
        intro e
        rcases Rat.mul_eq_zero.mp e with e | e <;> grind
      have ne : ¬ q * s = r * s := by grind
      rw [if_neg ne, if_neg h, if_neg h0]
      by_cases hs : 0 < s
      · by_cases hq : r < q
        · have := Rat.mul_pos (show 0 < q - r by grind) hs
          grind
        · have := Rat.mul_pos (show 0 < r - q by grind) hs
          grind
      · by_cases hq : r < q
        · have := Rat.mul_pos (show 0 < q - r by grind) (show 0 < -s by grind)
          grind
        · have := Rat.mul_pos (show 0 < r - q by grind) (show 0 < -s by grind)
          grind
theorem six (q : Rat) : Rat.divInt (q.num * 6) (q.den * 6) = q := by
  rw [← Rat.divInt_mul_divInt, Rat.num_divInt_den, Rat.divInt_self' (by decide), Rat.mul_one]
theorem negs (q : Rat) : Rat.divInt (0 - q.num) (0 - q.den) = q := by
  rw [show 0 - q.num = q.num * (-1) by omega, show (0 : Int) - q.den = q.den * (-1) by omega, ← Rat.divInt_mul_divInt, Rat.num_divInt_den, Rat.divInt_self' (by decide), Rat.mul_one]
theorem r_assoc (a b c : Rat) : a + b + c = a + (b + c) := by grind
theorem r_massoc (a b c : Rat) : a * b * c = a * (b * c) := by grind
theorem r_dist (a b c : Rat) : a * (b + c) = a * b + a * c := by grind
theorem r_addsub (a b : Rat) : a + b - b = a := by grind
theorem r_subadd (a b : Rat) : a - b + b = a := by grind
theorem r_divmul (a b : Rat) (h : b ≠ 0) : a / b * b = a := by grind
theorem r_muldiv (a b : Rat) (h : b ≠ 0) : a * b / b = a := by grind
end Jf
set_option Elab.async false
set_option linter.all false
set_option maxRecDepth 100000
set_option maxHeartbeats 4000000
namespace Jf
open PySem PySem.Spec PyProof.Rows L2 Evl
/-- a def of the text behind the top -/
structure FT (K : PySem.W.Frag) (mg : Str → Option Value) (x : Str) (st : Stmt) (ps : List Str) where
  a : Addr
  fd : FuncData
  F : Fun K x x st a fd
  b : Binds K fd ps []
  g : mg x = some (.ref a)
/-- // by a divisor that is not 0, below 2 ^ 9000 in size -/
def CDivZ (_ j : Int) : Prop := j ≠ 0 ∧ j.natAbs.log2 < 9000
theorem op_fdivZ {X : Cx} : OpR X (binaryOp .FloorDiv) (rI CDivZ fun i j => .int (i.fdiv j)) := opI fun i j _ _ _ _ _ hc q =>
  floordiv_int hc.1 q (.inl (PyProof.noPylong_of_log2 hc.2))
theorem log_lt {j : Nat} {b c : Nat} (h : j < 2 ^ b) (hc : b ≤ c) (h0 : 0 < c) : j.log2 < c :=
  Nat.lt_of_lt_of_le (PySem.Flt.log2_lt_of h0 (lt_pow_mono hc h)) (Nat.le_refl _)
theorem mulW {i j : Int} {a b : Nat} (ha : i.natAbs < 2 ^ a) (hb : j.natAbs < 2 ^ b) (h : a + b ≤ 900000) : CMulW i j :=
  wide_mul (lt_pow_mono (Nat.le_succ a) ha) (lt_pow_mono (Nat.le_succ b) hb) (Nat.succ_pos _) (Nat.succ_pos _) (by omega)

/-! ### what evaluates to a value of a kind -/
def EvP (te : TE) (σ : L2.St) (H : Hp) (P : V → Hp → Prop) : Prop := ∀ H1, Ex H H1 → ∀ Q : VK, (∀ v H2, Ex H1 H2 → P v H2 → Q v H2) → te σ H1 Q
/-- a fraction of at most b bits stands at v -/
def Fr (K : PySem.W.Frag) (b : Nat) (q : Rat) (v : V) (H : Hp) : Prop := ∃ p, v = .ref p ∧ SqT K H p [.int q.num, .int (q.den : Int)] ∧ Bd b q
section
variable {K : PySem.W.Frag} {σ : L2.St} {H H' : Hp} {te ta tb : TE} {P : V → Hp → Prop} {v : V} {b c n : Nat} {q r : Rat}
theorem Fr.ex (e : Ex H H') (h : Fr K b q v H) : Fr K b q v H' := by
  obtain ⟨p, rfl, h, x⟩ := h
  exact ⟨p, rfl, ex_t e h, x⟩
theorem Fr.mono (e : b ≤ c) (h : Fr K b q v H) : Fr K c q v H := by
  obtain ⟨p, rfl, h, x⟩ := h
  exact ⟨p, rfl, h, x.mono e⟩
theorem Fr.bd (h : Fr K b q v H) : Bd b q := h.choose_spec.2.2
theorem EvP.mono (e : Ex H H') (h : EvP te σ H P) : EvP te σ H' P := fun H1 a Q q => h H1 (e.trans a) Q q
theorem ep_var {i : Nat} (h : σ[i]? = some (some v)) (hf : Fr K b q v H) : EvP (tVar i) σ H (Fr K b q) := fun H1 e _ k => ⟨v, h, k v H1 (Ex.refl H1) (hf.ex e)⟩
theorem ep_mono (h : EvP te σ H (Fr K b q)) (e : b ≤ c) : EvP te σ H (Fr K c q) := fun H1 a Q k => h H1 a Q fun v H2 e2 f => k v H2 e2 (f.mono e)
theorem ep_is (h : EvP te σ H (Fr K b q)) (e : q = r) : EvP te σ H (Fr K b r) := e ▸ h
theorem ev_0 (h : EvP te σ H (Fr K b q)) : Ev (tOp (rIxT K) te (tC (.int 0))) σ H (.int q.num) := fun H1 a Q k => h H1 a _ fun v H2 e2 f => by
  obtain ⟨p, rfl, f, _⟩ := f
  exact ⟨p, _, 0, .int q.num, rfl, rfl, f, rfl, k H2 e2⟩
theorem ev_1 (h : EvP te σ H (Fr K b q)) : Ev (tOp (rIxT K) te (tC (.int 1))) σ H (.int (q.den : Int)) := fun H1 a Q k => h H1 a _ fun v H2 e2 f => by
  obtain ⟨p, rfl, f, _⟩ := f
  exact ⟨p, _, 1, .int (q.den : Int), rfl, rfl, f, rfl, k H2 e2⟩
/-- a new pair of ints that are a fraction's -/
theorem ep_tup {x y : Int} (ha : Ev ta σ H (.int x)) (hb : Ev tb σ H (.int y)) (e1 : x = q.num) (e2 : y = (q.den : Int)) (bd : Bd b q) : EvP (tTup (tCons ta (tCons tb tNil))) σ H (Fr K b q) := fun H1 a Q k =>
  ha H1 a _ fun H2 a2 => hb H2 (a.trans a2) _ fun H3 a3 => ⟨by show 2 ≤ sizeLine; decide, fun p hp => k _ _ ((a2.trans a3).trans (Ex.new hp)) ⟨p, rfl, by subst e1 e2; exact SqT.of upd_same, bd⟩⟩
theorem ev_mulW {x y : Int} (ha : Ev ta σ H (.int x)) (hb : Ev tb σ H (.int y)) (h : CMulW x y) : Ev (tOp (rI CMulW fun i j => .int (i * j)) ta tb) σ H (.int (x * y)) := ev_op ha hb (rv_I h)
theorem ev_add {x y : Int} (ha : Ev ta σ H (.int x)) (hb : Ev tb σ H (.int y)) : Ev (tOp (rI0 fun i j => .int (i + j)) ta tb) σ H (.int (x + y)) := ev_op ha hb rv_I0
theorem ev_sub {x y : Int} (ha : Ev ta σ H (.int x)) (hb : Ev tb σ H (.int y)) : Ev (tOp (rI0 fun i j => .int (i - j)) ta tb) σ H (.int (x - y)) := ev_op ha hb rv_I0
theorem ev_fdivZ {x y : Int} (ha : Ev ta σ H (.int x)) (hb : Ev tb σ H (.int y)) (h : CDivZ x y) : Ev (tOp (rI CDivZ fun i j => .int (i.fdiv j)) ta tb) σ H (.int (x.fdiv y)) := ev_op ha hb (rv_I h)
theorem ev_neg {x : Int} (ha : Ev ta σ H (.int x)) : Ev (tUn (rU fun i => .int (-i)) ta) σ H (.int (-x)) := ev_un ha ru_neg
theorem s_retP {D : Ends} (h : EvP te σ H P) (k : ∀ v H1, Ex H H1 → P v H1 → D.rt v H1) : tRet te D σ H := h H (Ex.refl H) _ k
theorem s_asgP {D : Ends} {i : Nat} (h : EvP te σ H P) (k : ∀ v H1, Ex H H1 → P v H1 → D.nx (σ.set i (some v)) H1) : tAsg te (gName i) D σ H := h H (Ex.refl H) _ k
theorem s_dropP {D : Ends} (h : EvP te σ H P) (k : ∀ v H1, Ex H H1 → P v H1 → D.nx σ H1) : tDrop te D σ H := h H (Ex.refl H) _ k

/-! ### deep equality of two fractions -/
theorem Fr.dp (h : Fr K b q v H) : Dp K H v (.tuple [.int q.num, .int (q.den : Int)]) := by
  obtain ⟨p, rfl, h, _⟩ := h
  exact .tup h (.cons (.int _) (.cons (.int _) .nil))
theorem eqv_fr (q r : Rat) : PyData.eqv (.tuple [.int q.num, .int (q.den : Int)]) (.tuple [.int r.num, .int (r.den : Int)]) = decide (q = r) := by
  simp only [PyData.eqv, PyData.eqvAll, Bool.and_true]
  have e : q = r ↔ q.num = r.num ∧ (q.den : Int) = (r.den : Int) := by
    constructor
    · rintro rfl
      exact ⟨rfl, rfl⟩
    · rintro ⟨h1, h2⟩
      exact Rat.ext h1 (by omega)
  rw [Bool.eq_iff_iff]
  simp [e]
theorem ev_neD (ha : EvP ta σ H (Fr K b q)) (hb : EvP tb σ H (Fr K c r)) : Ev (tOp (rNeD K) ta tb) σ H (.bl (!decide (q = r))) := fun H1 a Q k =>
  ha H1 a _ fun x H2 a2 f => hb H2 (a.trans a2) _ fun y H3 a3 g => ⟨_, _, (f.ex a3).dp, g.dp, rfl, rfl, by
    rw [eqv_fr]
    exact k H3 (a2.trans a3)⟩
theorem ev_eqD (ha : EvP ta σ H (Fr K b q)) (hb : EvP tb σ H (Fr K c r)) : Ev (tOp (rEqD K) ta tb) σ H (.bl (decide (q = r))) := fun H1 a Q k =>
  ha H1 a _ fun x H2 a2 f => hb H2 (a.trans a2) _ fun y H3 a3 g => ⟨_, _, (f.ex a3).dp, g.dp, rfl, rfl, by
    rw [eqv_fr]
    exact k H3 (a2.trans a3)⟩

/-! ### a def of two fractions -/
/-- op q r, of b + c + 1 bits at most -/
def sp2 (K : PySem.W.Frag) (ok : Rat → Prop) (f : Rat → Rat → Rat) : Sp := fun vs H Q _ => ∃ (u v : V) (b c : Nat) (q r : Rat), vs = [u, v] ∧ Fr K b q u H ∧ Fr K c r v H ∧ b + c + 1 ≤ 8000 ∧ ok r ∧
  ∀ z H', Ex H H' → Fr K (b + c + 1) (f q r) z H' → Q z H'
theorem ep_2 {ok : Rat → Prop} {f : Rat → Rat → Rat} {E : XK} (ha : EvP ta σ H (Fr K b q)) (hb : EvP tb σ H (Fr K c r)) (hk : ok r) (hl : b + c + 1 ≤ 8000) (hn : b + c + 1 = n) : EvP (tCall (sp2 K ok f) [] E (tCons ta (tCons tb tNil))) σ H (Fr K n (f q r)) := fun H1 a Q k =>
  ha H1 a _ fun x H2 a2 g => hb H2 (a.trans a2) _ fun y H3 a3 h => ⟨x, y, b, c, q, r, rfl, g.ex a3, h, hl, hk, fun z H' e w => k z H' ((a2.trans a3).trans e) (by subst hn; exact w)⟩
/-- compare -/
def spC (K : PySem.W.Frag) : Sp := fun vs H Q _ => ∃ (u v : V) (b c : Nat) (q r : Rat), vs = [u, v] ∧ Fr K b q u H ∧ Fr K c r v H ∧ b + c + 1 ≤ 8000 ∧ ∀ H', Ex H H' → Q (.int (cmp q r)) H'
theorem ev_C {E : XK} (ha : EvP ta σ H (Fr K b q)) (hb : EvP tb σ H (Fr K c r)) (hl : b + c + 1 ≤ 8000) : Ev (tCall (spC K) [] E (tCons ta (tCons tb tNil))) σ H (.int (cmp q r)) := fun H1 a Q k =>
  ha H1 a _ fun x H2 a2 g => hb H2 (a.trans a2) _ fun y H3 a3 h => ⟨x, y, b, c, q, r, rfl, g.ex a3, h, hl, fun H' e => k H' ((a2.trans a3).trans e)⟩
/-- is_fraction of a fraction; require_fraction of one -/
def spIs (K : PySem.W.Frag) (x : V) : Sp := fun vs H Q _ => ∃ (u : V) (b : Nat) (q : Rat), vs = [u] ∧ Fr K b q u H ∧ ∀ H', Ex H H' → Q x H'
theorem ev_Is {E : XK} {x : V} (ha : EvP ta σ H (Fr K b q)) : Ev (tCall (spIs K x) [] E (tCons ta tNil)) σ H x := fun H1 a Q k =>
  ha H1 a _ fun u H2 a2 g => ⟨u, b, q, rfl, g, fun H' e => k H' (a2.trans e)⟩
/-- lowest, fraction of two ints -/
def spLow (K : PySem.W.Frag) : Sp := fun vs H Q _ => ∃ (n d : Int) (b : Nat), vs = [.int n, .int d] ∧ d ≠ 0 ∧ n.natAbs < 2 ^ b ∧ d.natAbs < 2 ^ b ∧ b ≤ 8000 ∧ ∀ z H', Ex H H' → Fr K b (Rat.divInt n d) z H' → Q z H'
theorem ep_Low {E : XK} {x y : Int} (ha : Ev ta σ H (.int x)) (hb : Ev tb σ H (.int y)) (hd : y ≠ 0) (hx : x.natAbs < 2 ^ b) (hy : y.natAbs < 2 ^ b) (hl : b ≤ 8000) (hq : Rat.divInt x y = q) : EvP (tCall (spLow K) [] E (tCons ta (tCons tb tNil))) σ H (Fr K b q) := fun H1 a Q k =>
  ha H1 a _ fun H2 a2 => hb H2 (a.trans a2) _ fun H3 a3 => ⟨x, y, b, rfl, hd, hx, hy, hl, fun z H' e w => k z H' ((a2.trans a3).trans e) (by subst hq; exact w)⟩
/-- of any int whether it is one; require_whole -/
def spWhole (x : V) : Sp := fun vs H Q _ => ∃ n : Int, vs = [.int n] ∧ ∀ H', Ex H H' → Q x H'
theorem ev_Whole {E : XK} {x : V} {n : Int} (ha : Ev ta σ H (.int n)) : Ev (tCall (spWhole x) [] E (tCons ta tNil)) σ H x := fun H1 a Q k =>
  ha H1 a _ fun H2 a2 => ⟨n, rfl, fun H' e => k H' (a2.trans e)⟩
end
end Jf
set_option Elab.async false
set_option linter.all false
set_option maxRecDepth 100000
set_option maxHeartbeats 4000000
namespace Jf
open PySem PySem.Spec PyProof.Rows L2 Evl
/-! ### defs that show data: no list or tuple is being shown when they are called -/
structure FnG (P : Program) (w : World) (K : PySem.W.Frag) (mg : Str → Option Value) (base : Heap) (k : Nat) (f : Addr) (fd : FuncData) (ps : List Str) (sp : Sp) : Prop where
  size : ∀ vs H Q E, sp vs H Q E → vs.length = ps.length
  go : ∀ (A : Around) (outer : List Env) (s : Shared) (H : Hp) (args : Args) (us : List Value) (vs : List V) (Q : VK), A.guards = some [] → Room k A →
    Env0 P w K mg base A outer s H → BindsTo s fd args (ps.zip us) → Vals vs us → sp vs H Q E0 → codeAny (model P w) A (.call (.ref f) args) (CR CX0 outer P w H s Q E0) s
section
variable {X : Cx} {k : Nat} {f : Addr} {fd : FuncData} {ps : List Str} {sp : Sp} {x : Str} {p pos : Pos} {e : Expr} {es : List Expr} {t : TA}
/-- f(e, ..) of such a def -/
theorem pe_callG (F : FnG X.prog X.w X.K X.mg X.base k f fd ps sp) (gd : X.A.guards = some []) (hr : Room k X.A) (hg : Gl X x) (hm : X.mg x = some (.ref f)) (hk : PySem.W.keepIn X.K (.ref f) = true) (hb : Binds X.K fd ps [])
    (ha : PA X (e :: es) t) (hdb : (x == ("__debug__" : Str)) = false := by decide)
    (he : starEach (e :: es) X.env = (false, eval e X.env) :: starEach es X.env := by rfl)
    (hpl : (backTo pos (starEach es X.env)).any (·.1) = false := by rfl) : PE X (.Call (.Name x p) (e :: es) [] pos) (tCall sp [] E0 t) := by
  constructor
  intro pins s σ H Q I h
  apply wpAny_Call_Name_kw
  apply ld_glob I hg hm _ hdb
  apply PySem.W.callWith_K (h₀ := X.base) I.ok.mod.kin hk _ he hpl
  apply thn (ha.run pos pins s σ H _ I h)
  rintro us s1 ⟨vs, H1, I1, r, q⟩
  refine ⟨I1.kIn, ?_⟩
  have q' : sp vs H1 Q E0 := by
    have z := q
    rw [List.append_nil] at z
    exact z
  have hz : us.length = ps.length := r.length ▸ F.size _ _ _ _ q'
  have bt := hb s1 us I1.kIn (by simpa using hz)
  rw [List.append_nil] at bt
  apply wpAny_call
  apply codeAny_mono (F.go X.A X.stack s1 H1 ⟨us, []⟩ us vs Q gd hr I1.env0 bt r q')
  intro res s' hq
  match res, hq with
  | .ok (.ret u), hq => exact I1.after hq
  | .error _, hq => exact False.elim hq
end
section
variable {P : Program} {w : World} {K : PySem.W.Frag} {mg : Str → Option Value} {base : Heap}
/-- such a def, by its body -/
theorem okG {x qual : Str} {st : Stmt} {f : Addr} {fd : FuncData} {N ps : List Str} {k : Nat} {sp : Sp} (F : Fun K x qual st f fd) (S : FnScope N ps (defScope st)) (len : ∀ vs H Q E, sp vs H Q E → vs.length = ps.length)
    (body : ∀ (cdv : Value) (A : Around) (outer : List Env) (s : Shared) (H : Hp) (vs : List V) (Q : VK), A.guards = some [] → Room k (A.deeper (envOfC qual (defScope st) s.heap.objs.size f cdv)) → sp vs H Q E0 →
      ∃ t, PSs (cxOf CX0 P w K mg base N qual (defScope st) f cdv A outer s H E0).nox (defBody st) t ∧ t { nx := fun _ H' => Q .non H', rt := Q } (start N vs) H) :
    FnG P w K mg base (k + 1) f fd ps sp := by
  obtain ⟨oc, od, kV, doc, pm, an, cdv, ct, osl, rfl, lk, hcd⟩ := F.ex
  constructor
  · exact len
  intro A outer s H args us vs Q gd hr e0 hb r hsp
  have here : ∀ b o, base.get? b = some o → s.heap.get? b = some o := fun b o e => (e0.bs b o e).1
  have KX : K.In s.heap := e0.mod.kin.keeps here
  have par : ∀ y ∈ ps.zip us, (defScope st).names.lookup y.1 = some .local ∨ ((defScope st).names.lookup y.1 = some .cell ∧ ((cellsFrom (s.heap.objs.size + 1) (defScope st).names []).lookup y.1).isSome = true) := by
    rintro ⟨n, v⟩ hy
    have q := S.par n (List.of_mem_zip hy).1
    exact q.imp id fun z => ⟨z, PySem.W.cellsFrom_some _ _ _ (.inl z)⟩
  apply codeAny_call_function hr.depth (KX _ _ lk) rfl S.co S.gen rfl (PySem.W.codeRec_of KX hcd)
  apply hb
  apply wpAny_newFunctionEnv_cells S.kind par
  intro env he s1 ic
  subst he
  refine ⟨(e0.mod.nolimit.keeps here).keeps ic.toInCall.keep, codeAny_func ?_⟩
  obtain ⟨t, ht, hq⟩ := body cdv A outer s H vs Q gd (hr.deeper _) hsp
  have I0 := inv_start (CX := CX0) (E := E0) S hr.hd e0 (len _ _ _ _ hsp) r ic
  apply wpAny_mono (ht.nox.run [] s1 (start N vs) H _ I0 hq)
  · intro fl s' hs
    match fl, hs with
    | .ret u, ⟨v, σ', H', J, rv, q⟩ => exact ⟨v, H', J.os, J.bare, J.base, J.hok, rv, q⟩
    | .next, ⟨σ', H', J, q⟩ => exact ⟨V.non, H', J.os, J.bare, J.base, J.hok, rfl, q⟩
    | .brk, ⟨_, _, _, q⟩ => exact False.elim q
    | .cont, ⟨_, _, _, q⟩ => exact False.elim q
  · intro e s' hs
    exact hs
end
/-! ### isinstance of the error that a suite holds, its own dict read -/
/-- what its class must say -/
structure ErrC (K : PySem.W.Frag) (C : Addr) : Prop where
  cl : (PySem.W.clsIn K C).isSome = true
  ga : PySem.W.findIn K (.ref C) "__getattribute__" = some (some (.builtin "BaseException.__getattribute__"))
  gg : PySem.W.findIn K (.ref C) "__getattr__" = some none
  ex : PySem.W.subIn K (.ref C) (.type "BaseException") = some true
  hd : PySem.W.hasDictIn K C = true
  kc : PySem.W.findIn K (.ref C) "__class__" = some (some (.builtin "object.__class__"))
  sp : PySem.W.specialIn K (.builtin "object.__class__") "__get__" = some (some (.builtin "getset_descriptor.__get__"))
  tk : PySem.W.takesIn K (.builtin "object.__class__") = some true
  mo : PySem.W.mroIn K C (.type "object") = some true
def rIsD (K : PySem.W.Frag) (a : Addr) (cls : Value) (d : Option Addr) : List V → Hp → VK → Prop := fun xs H Q => ∃ (C B dd : Addr) (fs : List (Str × V)) (b : Bool), xs = [.ref a, .ref B] ∧ cls = .ref C ∧ ErrC K C ∧ d = some dd ∧ H dd = some (.xd fs) ∧ PySem.W.kitOne K (.ref C) (.ref B) = some b ∧ Q (.bl b) H
theorem call_isD {X : Cx} {a : Addr} {oe : Obj} {cls : Value} {d : Option Addr} {pn : List (Addr × Obj)} (hz : Zc cls d oe) (hf : ∃ vs, oe.data = .fields vs) : CallR (X.suite a ((a, oe) :: pn)) (.builtin "isinstance") (rIsD X.K a cls d) := by
  intro pins s σ H xs us Q I r h
  obtain ⟨C, B, dd, fs, b, rfl, rfl, T, rfl, ed, hk, q⟩ := h
  cases r with
  | cons rx rr =>
    cases rr with
    | cons rt rr =>
      cases rr
      cases rx
      cases rt
      have hget := (I.pin (a, oe) (List.mem_append_left _ List.mem_cons_self)).1
      obtain ⟨vs, hv⟩ := hf
      have hx : ObjOk X.prog X.w H s.heap dd (.xd fs) := I.hok dd _ ed
      obtain ⟨mA, hns, _⟩ := hx
      obtain ⟨od, ho, _⟩ := lookIn_ns hns
      have J : PySem.W.InstAt s.heap a oe C (some od) := by
        refine ⟨hget, hz.1, ?_, ?_⟩
        · unfold PySem.W.notCls
          rw [hv] <;> rfl
        · rw [hz.2]
          exact ho
      refine PySem.W.kia_one (PySem.W.kitx_exc T.cl T.ga T.gg T.ex T.kc T.sp T.tk T.mo) I.kIn J hk (fun z => nomatch z) ?_
      intro tk
      exact ⟨.bl b, H, I.kept (t' := tk) fun _ _ z => z, rfl, q⟩
/-! ### repr -/
/-- a list that is written out: it isn't at sys.modules -/
def tLstN (t : TA) : TE := fun σ H Q => t σ H fun xs H1 => xs.length ≤ sizeLine ∧ ∀ p, H1 p = none → p ≠ sysModules → Q (.ref p) (upd H1 p (.lst xs))
theorem pe_lstN {X : Cx} {es : List Expr} {t : TA} {pos : Pos} (h : PA X es t) : PE X (.List es pos) (tLstN t) := by
  constructor
  intro pins s σ H Q I want
  apply wpAny_List_spliced
  apply thn (h.run pos pins s σ H _ I want)
  rintro us s1 ⟨xs, H1, I1, vals, len, k⟩
  have free : H1 s1.heap.objs.size = none := I1.hok.fresh (Nat.le_refl _)
  refine ⟨vals.length ▸ len, .ref _, upd H1 _ (.lst xs), I1.laid (t' := s1.toks) (fun _ _ e => Heap.get?_push_of_some _ e) (Nat.le_refl _) ⟨len, us, 0, vals, Heap.get?_push_size _ rfl⟩, rfl, ?_⟩
  exact k _ free (Nat.ne_of_gt I1.big)
mutual
/-- data at a value: lists that are tracked (and are not what stands at p), tuples, the empty dict -/
inductive Dq (K : PySem.W.Frag) (p : Addr) (H : Hp) : V → PyData → Prop
  | non : Dq K p H .non .none
  | bl (b : Bool) : Dq K p H (.bl b) (.bool b)
  | int (i : Int) : Dq K p H (.int i) (.int i)
  | str (x : Str) : Dq K p H (.str x) (.str x)
  | lst {a : Addr} {xs : List V} {ds : List PyData} : a ≠ p → a ≠ sysModules → H a = some (.lst xs) → DqAll K p H xs ds → Dq K p H (.ref a) (.list ds)
  | tup {a : Addr} {xs : List V} {ds : List PyData} : SqT K H a xs → DqAll K p H xs ds → Dq K p H (.ref a) (.tuple ds)
  | emp {a : Addr} : H a = some (.dK []) → Dq K p H (.ref a) (.dict [])
inductive DqAll (K : PySem.W.Frag) (p : Addr) (H : Hp) : List V → List PyData → Prop
  | nil : DqAll K p H [] []
  | cons {v : V} {vs : List V} {d : PyData} {ds : List PyData} : Dq K p H v d → DqAll K p H vs ds → DqAll K p H (v :: vs) (d :: ds)
end
mutual
theorem Dq.ex {K : PySem.W.Frag} {p : Addr} {H H' : Hp} (e : Ex H H') : ∀ (d : PyData) (v : V), Dq K p H v d → Dq K p H' v d
  | _, _, .non => .non
  | _, _, .bl b => .bl b
  | _, _, .int i => .int i
  | _, _, .str x => .str x
  | _, _, .lst n m h hs => .lst n m (e _ _ h) (DqAll.ex e _ _ hs)
  | _, _, .tup h hs => .tup (ex_t e h) (DqAll.ex e _ _ hs)
  | _, _, .emp h => .emp (e _ _ h)
theorem DqAll.ex {K : PySem.W.Frag} {p : Addr} {H H' : Hp} (e : Ex H H') : ∀ (ds : List PyData) (vs : List V), DqAll K p H vs ds → DqAll K p H' vs ds
  | _, _, .nil => .nil
  | _, _, .cons h hs => .cons (Dq.ex e _ _ h) (DqAll.ex e _ _ hs)
end
section
variable {X : Cx} {pins : List (Addr × Obj)} {σ : L2.St} {H : Hp} {s : Shared}
mutual
theorem Dq.reads {p : Addr} (I : Inv X pins σ H s) : ∀ (d : PyData) (v : V) (u : Value), Dq X.K p H v d → RelV v u → ∃ as, Reads s.heap u d as ∧ sysModules ∉ as
  | _, _, u, .non, r => by
    cases (show u = Value.none from r)
    exact ⟨_, .none, by simp⟩
  | _, _, u, .bl b, r => by
    cases (show u = Value.bool b from r)
    exact ⟨_, .bool b, by simp⟩
  | _, _, u, .int i, r => by
    obtain ⟨t, q⟩ := (show ∃ t, u = Value.int i t from r)
    cases q
    exact ⟨_, .int i t, by simp⟩
  | _, _, u, .str x, r => by
    obtain ⟨t, q⟩ := (show ∃ t, u = Value.str x t from r)
    cases q
    exact ⟨_, .str x t, by simp⟩
  | _, _, u, .lst (a := a) _ m h hs, r => by
    cases (show u = Value.ref a from r)
    have hx : ObjOk X.prog X.w H s.heap a (.lst _) := I.hok a _ h
    obtain ⟨_, its, n, rv, e⟩ := hx
    obtain ⟨as, q, nm⟩ := DqAll.reads I _ _ _ hs rv
    exact ⟨_, .list e rfl rfl (by simpa using q), by
      simp only [List.mem_cons, not_or]
      exact ⟨m.symm, nm⟩⟩
  | _, _, u, .tup (a := a) h hs, r => by
    cases (show u = Value.ref a from r)
    obtain ⟨its, rv, ⟨o, e, c, n, dd⟩, _⟩ := I.tuple h
    obtain ⟨as, q, nm⟩ := DqAll.reads I _ _ _ hs rv
    exact ⟨_, .tuple e c dd (by simpa using q), nm⟩
  | _, _, u, .emp (a := a) h, r => by
    cases (show u = Value.ref a from r)
    obtain ⟨_, nsm, vs, kv, o, es, ep, e, x, dd, _, pr, _⟩ := dk_of I.hok h
    cases kv
    have e0 : es.toList = [] := by
      cases hh : es.toList with
      | nil => rfl
      | cons y ys =>
        rw [hh] at pr
        cases pr
    exact ⟨_, .dict (as := []) (bs := []) e x.1 dd (by rw [e0]; exact .nil) (by rw [e0]; exact .nil), by
      have := (beq_eq_false_iff_ne.mp nsm).symm
      simpa using this⟩
theorem DqAll.reads {p : Addr} (I : Inv X pins σ H s) : ∀ (ds : List PyData) (vs : List V) (us : List Value), DqAll X.K p H vs ds → Vals vs us → ∃ as, ReadsAll s.heap us ds as ∧ sysModules ∉ as
  | _, _, us, .nil, r => by
    cases r
    exact ⟨_, .nil, by simp⟩
  | _, _, us, .cons h hs, r => by
    cases r with
    | cons r1 r2 =>
      obtain ⟨as, q1, n1⟩ := Dq.reads I _ _ _ h r1
      obtain ⟨bs, q2, n2⟩ := DqAll.reads I _ _ _ hs r2
      exact ⟨_, .cons q1 q2, by
        simp only [List.mem_append, not_or]
        exact ⟨n1, n2⟩⟩
end
end
mutual
theorem Dp.nd {K : PySem.W.Frag} {H : Hp} : ∀ (d : PyData) (v : V), Dp K H v d → d.hasDict = false
  | _, _, .non => rfl
  | _, _, .bl _ => rfl
  | _, _, .int _ => rfl
  | _, _, .str _ => rfl
  | _, _, .lst _ hs => by simp only [PyData.hasDict]; exact DpAll.nd _ _ hs
  | _, _, .tup _ hs => by simp only [PyData.hasDict]; exact DpAll.nd _ _ hs
theorem DpAll.nd {K : PySem.W.Frag} {H : Hp} : ∀ (ds : List PyData) (vs : List V), DpAll K H vs ds → PyData.hasDictAll ds = false
  | _, _, .nil => rfl
  | _, _, .cons h hs => by simp only [PyData.hasDictAll, Dp.nd _ _ h, DpAll.nd _ _ hs, Bool.or_false]
end
def rRepr (K : PySem.W.Frag) : List V → Hp → VK → Prop := fun xs H Q => ∃ (x : V) (d : PyData) (p : Addr), xs = [x] ∧ (Dq K p H x d ∨ Dp K H x d) ∧ d.showable = true ∧ d.depth ≤ 60 ∧ d.shown.length ≤ sizeLine ∧ Q (.str d.shown) H
section
variable {X : Cx}
theorem call_repr (gd : X.A.guards = some []) (hu : X.A.units + 64 < cLine) : CallR X (.builtin "repr") (rRepr X.K) := by
  intro pins s σ H xs us Q I r h
  obtain ⟨x, d, p, rfl, hd, hs, hdep, hz, q⟩ := h
  cases r with
  | cons r1 r2 =>
    cases r2
    rename_i u
    obtain ⟨as, hr, nm⟩ : ∃ as, Reads s.heap u d as ∧ (d.hasDict = true → sysModules ∉ as) := by
      rcases hd with hd | hd
      · obtain ⟨as, hr, nm⟩ := Dq.reads I d x u hd r1
        exact ⟨as, hr, fun _ => nm⟩
      · obtain ⟨as, hr⟩ := Dp.reads I d x u hd r1
        exact ⟨as, hr, fun z => by rw [Dp.nd d x hd] at z; cases z⟩
    have fin : ∀ h' u' tk, (∀ b o, s.heap.get? b = some o → h'.get? b = some o) → EP X pins σ Q (.str d.shown u') { s with heap := h', toks := tk } := fun h' u' tk hk => ⟨.str d.shown, H, I.kept hk, ⟨_, rfl⟩, q⟩
    have f0 := fin s.heap s.toks (s.toks + 1) (fun _ _ z => z)
    cases hr with
    | none => exact PySem.P.repr_of_none (by simpa [PyData.shown] using f0)
    | bool b => exact PySem.P.repr_of_bool (by simpa [PyData.shown] using f0)
    | int i t => exact PySem.P.repr_of_int (by simpa [PyData.showable] using hs) (by simpa [PyData.shown] using f0)
    | str y t => exact PySem.P.repr_of_str (by simpa [PyData.shown] using f0) (by simpa [PyData.shown] using hz)
    | list h1 h2 h3 h4 => exact repr_of_reads' (.list h1 h2 h3 h4) hs nm gd (by omega) (fun _ _ z => z) (fun h' u' tk hk => fin h' u' tk hk) hz
    | tuple h1 h2 h3 h4 => exact repr_of_reads' (.tuple h1 h2 h3 h4) hs nm gd (by omega) (fun _ _ z => z) (fun h' u' tk hk => fin h' u' tk hk) hz
    | dict h1 h2 h3 h4 h5 => exact repr_of_reads' (.dict h1 h2 h3 h4 h5) hs nm gd (by omega) (fun _ _ z => z) (fun h' u' tk hk => fin h' u' tk hk) hz
end
end Jf
set_option Elab.async false
set_option linter.all false
set_option maxRecDepth 100000
set_option maxHeartbeats 4000000
namespace Jf
open PySem PySem.Spec PyProof.Rows L2 Evl
/-! ### how long shown data is -/
def lens : List Str → Nat
  | [] => 0
  | t :: ts => t.length + 2 + lens ts
theorem textFrom_le : ∀ (ts : List Str) (k : Nat) (acc : Str), (textFrom k acc ts).length ≤ acc.length + lens ts
  | [], _, acc => by simp [textFrom, lens]
  | t :: ts, k, acc => by
    have h := textFrom_le ts (k + 1) (acc ++ (if k > 0 then ", " else "" : String) ++ t)
    have e : ((if k > 0 then ", " else "" : String) : Str).length ≤ 2 := by
      by_cases z : k > 0
      · rw [if_pos z]; decide
      · rw [if_neg z]; decide
    simp only [textFrom, lens, Str.length_append] at h ⊢
    omega
theorem join_le : ∀ ts : List Str, (Str.join ", " ts).length ≤ lens ts
  | [] => by simp only [Str.join, lens]; decide
  | [x] => by simp only [Str.join, lens]; omega
  | x :: y :: r => by
    have h := join_le (y :: r)
    have e : ((", " : String) : Str).length = 2 := by decide
    simp only [Str.join, lens, Str.length_append] at h ⊢
    omega
mutual
def cost : PyData → Nat
  | .none => 4
  | .bool _ => 5
  | .int i => i.natAbs.log2 + 3
  | .str x => (reprText x).length
  | .list xs => costAll xs + 4
  | .tuple xs => costAll xs + 4
  | .dict [] => 2
  | .dict (_ :: _) => 100000000
def costAll : List PyData → Nat
  | [] => 0
  | x :: xs => cost x + 2 + costAll xs
end
mutual
theorem shown_le : ∀ d : PyData, cost d < 100000000 → d.shown.length ≤ cost d
  | .none, _ => by simp only [PyData.shown, cost]; decide
  | .bool b, _ => by cases b <;> (simp only [PyData.shown, cost]; decide)
  | .int i, _ => by
    simp only [PyData.shown, cost]
    have h := int_text_length_le (a := i) (k := i.natAbs.log2 + 1) (by omega) (by omega)
    show (Str.ofString (toString i)).length ≤ _
    rw [PySem.ofString_length]
    omega
  | .str x, _ => by simp only [PyData.shown, cost]; omega
  | .list xs, h => by
    simp only [cost] at h
    have := shownAll_le xs (by omega)
    have z := textFrom_le (PyData.shownAll xs) 0 (Str.ofString "[")
    have e : (Str.ofString "[").length = 1 := by decide
    have e2 : (Str.ofString "]").length = 1 := by decide
    simp only [PyData.shown, cost, listText, Str.length_append] at z ⊢
    omega
  | .tuple xs, h => by
    simp only [cost] at h
    have := shownAll_le xs (by omega)
    have z := join_le (PyData.shownAll xs)
    have e : (Str.ofString "(").length = 1 := by decide
    have e2 : ((if (PyData.shownAll xs).length == 1 then ",)" else ")" : String) : Str).length ≤ 2 := by
      by_cases q : ((PyData.shownAll xs).length == 1) = true
      · rw [if_pos q]; decide
      · rw [if_neg q]; decide
    simp only [PyData.shown, cost, tupleText, Str.length_append] at z ⊢
    omega
  | .dict [], _ => by simp only [PyData.shown, PyData.shownKv, cost]; decide
  | .dict (_ :: _), h => by simp only [cost] at h; omega
theorem shownAll_le : ∀ ds : List PyData, costAll ds < 100000000 → lens (PyData.shownAll ds) ≤ costAll ds
  | [], _ => by simp [PyData.shownAll, lens, costAll]
  | d :: ds, h => by
    simp only [costAll] at h
    have h1 := shown_le d (by omega)
    have h2 := shownAll_le ds (by omega)
    simp only [PyData.shownAll, lens, costAll]
    omega
end
/-- data that is shown without harm: its text, its depth -/
structure Nc (c e : Nat) (d : PyData) : Prop where
  sh : d.showable = true
  dp : d.depth ≤ e
  co : cost d ≤ c
theorem Nc.mono {c c' e e' : Nat} {d : PyData} (h : Nc c e d) (h1 : c ≤ c') (h2 : e ≤ e') : Nc c' e' d := ⟨h.sh, Nat.le_trans h.dp h2, Nat.le_trans h.co h1⟩
theorem Nc.len {c e : Nat} {d : PyData} (h : Nc c e d) (hc : c ≤ 1000000) : d.shown.length ≤ c := Nat.le_trans (shown_le d (by have := h.co; omega)) h.co
theorem nc_none : Nc 4 0 .none := ⟨rfl, Nat.le_refl _, Nat.le_refl _⟩
theorem nc_bool (b : Bool) : Nc 5 0 (.bool b) := ⟨rfl, Nat.le_refl _, Nat.le_refl _⟩
theorem nc_int {n : Int} {b : Nat} (h : n.natAbs < 2 ^ b) (h0 : 0 < b) (h1 : b ≤ 1900) : Nc (b + 2) 0 (.int n) := by
  have := PySem.Flt.log2_lt_of h0 h
  refine ⟨?_, Nat.le_refl _, ?_⟩
  · simp only [PyData.showable, decide_eq_true_eq]; omega
  · simp only [cost]; omega
theorem nc_str {x : Str} {c : Nat} (h : (reprText x).length ≤ c) : Nc c 0 (.str x) := ⟨rfl, Nat.le_refl _, h⟩
/-- several -/
structure NcA (c e : Nat) (ds : List PyData) : Prop where
  sh : PyData.showableAll ds = true
  dp : PyData.depthAll ds ≤ e
  co : costAll ds ≤ c
theorem nca_nil {e : Nat} : NcA 0 e [] := ⟨rfl, Nat.zero_le _, Nat.le_refl _⟩
theorem nca_cons {c c' e : Nat} {d : PyData} {ds : List PyData} (h : Nc c e d) (hs : NcA c' e ds) : NcA (c + 2 + c') e (d :: ds) := by
  refine ⟨?_, ?_, ?_⟩
  · simp only [PyData.showableAll, h.sh, hs.sh, Bool.and_self]
  · simp only [PyData.depthAll]; exact Nat.max_le.mpr ⟨h.dp, hs.dp⟩
  · simp only [costAll]; have := h.co; have := hs.co; omega
theorem nc_tup {c e : Nat} {ds : List PyData} (h : NcA c e ds) : Nc (c + 4) (e + 1) (.tuple ds) := by
  refine ⟨?_, ?_, ?_⟩
  · simp only [PyData.showable, h.sh]
  · simp only [PyData.depth]; have := h.dp; omega
  · simp only [cost]; have := h.co; omega
theorem nc_lst {c e : Nat} {ds : List PyData} (h : NcA c e ds) : Nc (c + 4) (e + 1) (.list ds) := by
  refine ⟨?_, ?_, ?_⟩
  · simp only [PyData.showable, h.sh]
  · simp only [PyData.depth]; have := h.dp; omega
  · simp only [cost]; have := h.co; omega
theorem nc_emp : Nc 2 1 (.dict []) := ⟨rfl, Nat.le_refl _, Nat.le_refl _⟩
theorem nc_pair {n m : Int} {b : Nat} (hn : n.natAbs < 2 ^ b) (hm : m.natAbs < 2 ^ b) (h0 : 0 < b) (h1 : b ≤ 1900) : Nc (2 * b + 12) 1 (.tuple [.int n, .int m]) :=
  (nc_tup (nca_cons (nc_int hn h0 h1) (nca_cons (nc_int hm h0 h1) nca_nil))).mono (by omega) (by omega)
/-! ### which data is what -/
def tyName : PyData → String
  | .none => "NoneType"
  | .bool _ => "bool"
  | .int _ => "int"
  | .str _ => "str"
  | .list _ => "list"
  | .tuple _ => "tuple"
  | .dict _ => "dict"
def isTup : PyData → Bool
  | .tuple _ => true
  | _ => false
def isInt : PyData → Bool
  | .int _ => true
  | .bool _ => true
  | _ => false
def isBo : PyData → Bool
  | .bool _ => true
  | _ => false
def isWh : PyData → Bool
  | .int _ => true
  | _ => false
theorem wh_eq (d : PyData) : (isInt d && !isBo d) = isWh d := by cases d <;> rfl
theorem kit_tup (d : PyData) : kitB (tyName d) "tuple" = some (isTup d) := by cases d <;> (simp only [tyName, isTup]; decide +kernel)
theorem kit_int (d : PyData) : kitB (tyName d) "int" = some (isInt d) := by cases d <;> (simp only [tyName, isInt]; decide +kernel)
theorem kit_bool (d : PyData) : kitB (tyName d) "bool" = some (isBo d) := by cases d <;> (simp only [tyName, isBo]; decide +kernel)
section
variable {K : PySem.W.Frag} {p : Addr} {H H' : Hp} {v : V} {d : PyData}
theorem Dq.ty (h : Dq K p H v d) : TyX K H v (.type (tyName d)) := by
  cases h with
  | non => exact .base .non
  | bl b => exact .base (.bl b)
  | int i => exact .base (.int i)
  | str x => exact .base (.str x)
  | lst _ _ h _ => exact .base (.lst h)
  | tup h _ =>
    rcases h with (h | ⟨o, h⟩) | ⟨o, _, _, h, c, _⟩
    · exact .base (.tup h)
    · exact .fTuple h
    · exact .kTuple h c
  | emp h => exact .base (.dK h)
theorem DqAll.len : ∀ {vs : List V} {ds : List PyData}, DqAll K p H vs ds → vs.length = ds.length
  | _, _, .nil => rfl
  | _, _, .cons _ h => by rw [List.length_cons, List.length_cons, h.len]
theorem DqAll.mem : ∀ {vs : List V} {ds : List PyData}, DqAll K p H vs ds → ∀ x ∈ vs, ∃ d ∈ ds, Dq K p H x d
  | _, _, .nil, x, hx => nomatch hx
  | _, _, .cons (d := d) h hs, x, hx => by
    rcases List.mem_cons.mp hx with rfl | hx
    · exact ⟨d, List.mem_cons_self, h⟩
    · obtain ⟨e, he, q⟩ := hs.mem x hx
      exact ⟨e, List.mem_cons_of_mem _ he, q⟩
theorem DqAll.append : ∀ {vs ws : List V} {ds es : List PyData}, DqAll K p H vs ds → DqAll K p H ws es → DqAll K p H (vs ++ ws) (ds ++ es)
  | _, _, _, _, .nil, h => h
  | _, _, _, _, .cons a b, h => .cons a (b.append h)
/-- a fraction's data -/
def frd (q : Rat) : PyData := .tuple [.int q.num, .int (q.den : Int)]
theorem Fr.dq {b : Nat} {q : Rat} (h : Fr K b q v H) : Dq K p H v (frd q) := by
  obtain ⟨a, rfl, h, _⟩ := h
  exact .tup h (.cons (.int _) (.cons (.int _) .nil))
theorem Fr.nc {b : Nat} {q : Rat} (h : Fr K b q v H) (h0 : 0 < b) (h1 : b ≤ 1900) : Nc (2 * b + 12) 1 (frd q) := nc_pair h.bd.1 (bd_den h.bd) h0 h1
/-- whether it is a fraction's -/
def frB : PyData → Bool
  | .tuple [.int n, .int m] => decide (0 < m) && decide (Nat.gcd n.natAbs m.natAbs = 1)
  | _ => false
def frQ : PyData → Rat
  | .tuple [.int n, .int m] => Rat.divInt n m
  | _ => 0
theorem divInt_low {n m : Int} (hm : 0 < m) (hg : Nat.gcd n.natAbs m.natAbs = 1) : (Rat.divInt n m).num = n ∧ ((Rat.divInt n m).den : Int) = m := by
  obtain ⟨h1, h2⟩ := low_eq n m (by omega) 1 (by rw [if_neg (by omega)])
  rw [hg] at h1 h2
  constructor
  · rw [← h1]; simp
  · rw [← h2]; simp
theorem frB_frd (q : Rat) : frB (frd q) = true := by
  have := den_pos q
  have h := red q
  simp only [frd, frB, h, decide_true, Bool.and_true, decide_eq_true_eq]
  exact this
theorem frQ_frd (q : Rat) : frQ (frd q) = q := by
  simp only [frd, frQ]
  exact Rat.num_divInt_den q
theorem frB_iff (h : frB d = true) : d = frd (frQ d) := by
  unfold frB at h
  split at h
  · rename_i n m
    rw [Bool.and_eq_true] at h
    obtain ⟨h1, h2⟩ := divInt_low (of_decide_eq_true h.1) (of_decide_eq_true h.2)
    simp only [frd, frQ, h1, h2]
  · cases h
theorem Dq.fr {b : Nat} (h : Dq K p H v d) (hb : frB d = true) (bd : Bd b (frQ d)) : Fr K b (frQ d) v H := by
  have e := frB_iff hb
  generalize frQ d = q at e bd
  subst e
  cases h with
  | tup h hs =>
    cases hs with
    | cons h1 h2 =>
      cases h2 with
      | cons h3 h4 =>
        cases h4
        cases h1
        cases h3
        exact ⟨_, rfl, h, bd⟩
end
end Jf
set_option Elab.async false
set_option linter.all false
set_option maxRecDepth 100000
set_option maxHeartbeats 4000000
namespace Jf
open PySem PySem.Spec PyProof.Rows L2 Evl
/-! ### the end of a law whose def shows data -/
/-- the script, known to its object; else nothing -/
def track (a : Addr) (vs : List Value) (ns : List Int) : Hp := fun b => if b = a then some (.frz { cls := .type "list", data := .seq vs.toArray } (.lst (ns.map V.int))) else none
theorem track_at {a : Addr} {vs : List Value} {ns : List Int} : track a vs ns a = some (.frz { cls := .type "list", data := .seq vs.toArray } (.lst (ns.map V.int))) := if_pos rfl
theorem track_ne {a b : Addr} {vs : List Value} {ns : List Int} (h : b ≠ a) : track a vs ns b = none := if_neg h
/-- what the law's promise is asked at -/
structure Asked (K : PySem.W.Frag) (h : Heap) (a : Addr) (vs : List Value) (ns : List Int) (H : Hp) : Prop where
  known : SqL K H a (ns.map V.int)
  only : ∀ b u, H b = some u → b = a ∧ ∃ o xs, u = .frz o (.lst xs)
  free : ∀ b o, K.lookup b = some o → H b = none
theorem seq_not_dict {h : Heap} {a : Addr} {vs : Array Value} {m : Str → Option Value} (ha : h.get? a = some { cls := .type "list", data := .seq vs }) : ¬ h.Ns a m := by
  rintro ⟨o, es, ep, e, d, _⟩
  rw [ha] at e
  cases e
  cases d
section
variable {P : Program} {w : World} {K : PySem.W.Frag} {mg mb : Str → Option Value} {k : Nat} {fa a : Addr} {fd : FuncData} {x : Str} {sp : Sp} {s₁ : Shared} {vs : List Value} {ns : List Int}
theorem go_law {H : Hp} (S : Asked K s₁.heap a vs ns H) (hok : HOk P w H s₁.heap) (KX : K.In s₁.heap) (hns : s₁.heap.Ns mainGlobals mg) (hb : s₁.heap.Ns builtinsNs mb) (hbb : ∀ x : Str, x ≠ "__name__" → mb x = bootBuiltins x) (hlim : s₁.heap.NoLimit) (hg : s₁.gens = #[])
    (ha : s₁.heap.get? a = some { cls := .type "list", data := .seq vs.toArray }) (hr : Room k callerA)
    (F : ∀ base : Heap, K.In base → base.Ns mainGlobals mg → FnG P w K mg base k fa fd [x] sp) (hbind : ∀ (s : Shared) (u : Value), BindsTo s fd ⟨[u], []⟩ [(x, u)])
    (hsp : sp [.ref a] H (fun v _ => v = .bl true) E0) :
    codeAny (model P w) callerA (.call (.ref fa) ⟨[.ref a], []⟩) (fun r s' => r = .ok (.ret (.bool true)) ∧ PySem.OldK s₁.heap s'.heap ∧ s'.os = s₁.os ∧ AllBare s'.gens) s₁ := by
  have ns_of : ∀ {b : Addr} {m : Str → Option Value}, s₁.heap.Ns b m → (hidT s₁.heap H).Ns b m := by
    intro b m hn
    have hn' := hn
    obtain ⟨o, es, ep, e, r⟩ := hn
    refine ⟨o, es, ep, hidT_get e ?_, r⟩
    cases q : H b with
    | none => rfl
    | some u =>
      obtain ⟨rfl, _⟩ := S.only b u q
      exact absurd hn' (seq_not_dict ha)
  have hKb : K.In (hidT s₁.heap H) := fun b o e => hidT_get (KX b o e) (S.free b o e)
  obtain ⟨mc, l1, l2⟩ := hlim
  have e0 : Env0 P w K mg (hidT s₁.heap H) callerA [] s₁ H := by
    constructor
    · rfl
    · exact ⟨hKb, ns_of hns, ⟨mb, ns_of hb, hbb⟩, ⟨mc, ns_of l1, l2⟩⟩
    · exact fun b o e => of_hidT e
    · exact Nat.le_of_eq (hidT_size _ _)
    · trivial
    · intro b hb
      exact absurd (show b ∈ ([] : List Addr) from hb) (by simp)
    · exact hok
    · exact .of_eq hg
  apply codeAny_mono ((F _ hKb (ns_of hns)).go callerA [] s₁ H ⟨[.ref a], []⟩ [.ref a] [.ref a] _ rfl hr e0 (hbind s₁ (.ref a)) (.cons rfl .nil) hsp)
  intro r s' h
  match r, h with
  | .error _, h => exact False.elim h
  | .ok (.ret u), ⟨v, H', os, bare, un, hok', r', q⟩ =>
    subst q
    obtain rfl : u = Value.bool true := r'
    refine ⟨rfl, PySem.OldK.of_keep ?_, os, bare⟩
    intro b o e
    cases q : H b with
    | none => exact un.keep b o e q (by intro z; exact absurd (show b ∈ ([] : List Addr) from z) (by simp)) (by simp)
    | some u =>
      obtain ⟨rfl, ob, xs, rfl⟩ := S.only b u q
      have q2 := un.frzs b ob _ q
      have e1 := (hok b _ q).1
      have e2 := (hok' b _ q2).1
      rw [e] at e1
      cases e1
      exact e2
theorem law_callG (KX : K.In s₁.heap) (hns : s₁.heap.Ns mainGlobals mg) (hb : s₁.heap.Ns builtinsNs mb) (hbb : ∀ x : Str, x ≠ "__name__" → mb x = bootBuiltins x) (hlim : s₁.heap.NoLimit) (hg : s₁.gens = #[])
    (ha : s₁.heap.get? a = some { cls := .type "list", data := .seq vs.toArray }) (hi : IntsAre vs ns) (hl : ns.length ≤ sizeLine) (hr : Room k callerA)
    (F : ∀ base : Heap, K.In base → base.Ns mainGlobals mg → FnG P w K mg base k fa fd [x] sp) (hbind : ∀ (s : Shared) (u : Value), BindsTo s fd ⟨[u], []⟩ [(x, u)])
    (hsp : ∀ H : Hp, SqL K H a (ns.map V.int) → sp [.ref a] H (fun v _ => v = .bl true) E0) :
    codeAny (model P w) callerA (.call (.ref fa) ⟨[.ref a], []⟩) (fun r s' => r = .ok (.ret (.bool true)) ∧ PySem.OldK s₁.heap s'.heap ∧ s'.os = s₁.os ∧ AllBare s'.gens) s₁ := by
  have rv := vals_ints hi
  cases hk : K.lookup a with
  | some o =>
    have e := KX a o hk
    rw [ha] at e
    cases e
    have known : SqL K (fun _ => none) a (ns.map V.int) := .inr ⟨_, vs.toArray, _, hk, rfl, rfl, rfl, by rw [List.size_toArray, hi.length]; exact hl, by simpa using rv⟩
    exact go_law (H := fun _ => none) ⟨known, (fun _ _ z => nomatch z), (fun _ _ _ => rfl)⟩ (fun _ _ z => nomatch z) KX hns hb hbb hlim hg ha hr F hbind (hsp _ known)
  | none =>
    have known : SqL K (track a vs ns) a (ns.map V.int) := .inl (.inr ⟨_, track_at⟩)
    refine go_law (H := track a vs ns) ⟨known, fun b u z => ?_, fun b o z => track_ne ?_⟩ (fun b u z => ?_) KX hns hb hbb hlim hg ha hr F hbind (hsp _ known)
    · by_cases h : b = a
      · subst h
        rw [track_at] at z
        cases z
        exact ⟨rfl, _, _, rfl⟩
      · rw [track_ne h] at z
        cases z
    · rintro rfl
      rw [hk] at z
      cases z
    · by_cases h : b = a
      · subst h
        rw [track_at] at z
        cases z
        exact ⟨ha, by rw [List.length_map]; exact hl, vs, _, rv, ha⟩
      · rw [track_ne h] at z
        cases z
end
theorem walk_ofG {l : PySem.W.OpenLaw} {n k : Nat} {q : Program} {loose : List Str} {XP : (Str → Option Value) → Heap → Prop} {YP : World → Heap → Prop} {d : DefRec} {K : Params → PySem.W.Frag} {sp : World → Sp} {x : Str}
    (hn : l.most = some n) (hn2 : n ≤ sizeLine) (hdf : d.params.defaults = []) (hr : Room k callerA) (hY : ∀ (w : World) (h : Heap), YP w h → (K w.params).In h)
    (F : ∀ (w : World) (mg : Str → Option Value) (fa : Addr) (h : Heap), (K w.params).In h → h.Ns mainGlobals mg → mg d.name = some (.ref fa) →
      ∃ fd : FuncData, (∀ (s : Shared) (u : Value), BindsTo s fd ⟨[u], []⟩ [(x, u)]) ∧ ∀ base : Heap, (K w.params).In base → base.Ns mainGlobals mg → FnG l.prog w (K w.params) mg base k fa fd [x] (sp w))
    (hsp : ∀ (w : World) (H : Hp) (a : Addr) (ns : List Int), ns.length ≤ n → SqL (K w.params) H a (ns.map V.int) → sp w [.ref a] H (fun v _ => v = .bl true) E0) :
    PySem.W.WalkO q loose XP YP l.row.toRowW d [] (fun f vs => PySem.call f vs) := by
  apply Att.attach_call hn hdf
  intro w s₀ s₁ mg mb fa o pm cd doc a vs ns G Y _ _ _ hmg hobj hints hlen hg
  obtain ⟨fd, hb, hF⟩ := F w mg fa _ (hY w _ Y) G.T.g hmg
  exact law_callG (hY w _ Y) G.T.g G.T.b G.T.builtins G.T.nolimit hg hobj hints (Nat.le_trans hlen hn2) hr hF hb fun H hS => hsp w H a ns hlen hS
end Jf
set_option Elab.async false
set_option linter.all false
set_option maxRecDepth 100000
set_option maxHeartbeats 4000000
namespace Jf
open PySem PySem.Spec PyProof.Rows L2 Evl
/-! ### the end of a law whose def shows data, some defs of which hold generators (cs: their code objects, with the tables) -/
def trackT (cs : List (Addr × Addr)) (H : Hp) : Hp := fun b => if b ∈ cs.map (fun p => p.2) then some (.tbl #[]) else H b
theorem trackT_in {cs : List (Addr × Addr)} {H : Hp} {b : Addr} (h : b ∈ cs.map (fun p => p.2)) : trackT cs H b = some (.tbl #[]) := if_pos h
theorem trackT_out {cs : List (Addr × Addr)} {H : Hp} {b : Addr} (h : b ∉ cs.map (fun p => p.2)) : trackT cs H b = H b := if_neg h
structure AskedT (K : PySem.W.Frag) (cs : List (Addr × Addr)) (a : Addr) (ns : List Int) (H : Hp) : Prop where
  known : SqL K H a (ns.map V.int)
  tbl : ∀ b ∈ cs.map (fun p => p.2), H b = some (.tbl #[])
  only : ∀ b u, H b = some u → b ∈ cs.map (fun p => p.2) ∨ (b = a ∧ ∃ o xs, u = .frz o (.lst xs))
  free : ∀ b o, K.lookup b = some o → H b = none
section
variable {P : Program} {w : World} {K : PySem.W.Frag} {mg mb : Str → Option Value} {k : Nat} {fa a : Addr} {fd : FuncData} {x : Str} {sp : Sp} {s₁ : Shared} {vs : List Value} {ns : List Int} {cs : List (Addr × Addr)}
theorem go_lawT {H : Hp} (S : AskedT K cs a ns H) (hok : HOk P w H s₁.heap) (KX : K.In s₁.heap) (hns : s₁.heap.Ns mainGlobals mg) (hb : s₁.heap.Ns builtinsNs mb) (hbb : ∀ x : Str, x ≠ "__name__" → mb x = bootBuiltins x) (hlim : s₁.heap.NoLimit) (hg : s₁.gens = #[])
    (hT : ∀ p ∈ cs, s₁.heap.get? p.2 = some { cls := .none, data := .fields #[] }) (hC : ∀ p ∈ cs, PySem.W.CodeHd s₁.heap p.1 p.2)
    (hbm : ∃ (bm : Addr) (ob : Obj), mg "__builtins__" = some (.ref bm) ∧ bm ≠ builtinsNs ∧ s₁.heap.get? bm = some ob ∧ ob.cls = .type "module" ∧ ob.dict = some builtinsNs ∧ ob.data = .plain)
    (ha : s₁.heap.get? a = some { cls := .type "list", data := .seq vs.toArray }) (hr : Room k callerA)
    (F : ∀ base : Heap, K.In base → base.Ns mainGlobals mg → (∀ p ∈ cs, GxR.TabB base mg p.1 p.2) → FnG P w K mg base k fa fd [x] sp) (hbind : ∀ (s : Shared) (u : Value), BindsTo s fd ⟨[u], []⟩ [(x, u)])
    (hsp : sp [.ref a] H (fun v _ => v = .bl true) E0) :
    codeAny (model P w) callerA (.call (.ref fa) ⟨[.ref a], []⟩) (fun r s' => r = .ok (.ret (.bool true)) ∧ PySem.OldK s₁.heap s'.heap ∧ s'.os = s₁.os ∧ AllBare s'.gens) s₁ := by
  have atT : ∀ b ∈ cs.map (fun p => p.2), s₁.heap.get? b = some { cls := .none, data := .fields #[] } := by
    intro b h
    obtain ⟨p, hp, rfl⟩ := List.mem_map.mp h
    exact hT p hp
  -- what has other data isn't tracked
  have other : ∀ {b : Addr} {o : Obj}, s₁.heap.get? b = some o → o.data ≠ .fields #[] → (∀ us n, o.data ≠ .seq us n) → H b = none := by
    intro b o e n1 n2
    cases q : H b with
    | none => rfl
    | some u =>
      rcases S.only b u q with z | ⟨rfl, _⟩
      · rw [atT b z] at e
        cases e
        exact absurd rfl n1
      · rw [ha] at e
        cases e
        exact absurd rfl (n2 _ _)
  have base_ns : ∀ {b : Addr} {m : Str → Option Value}, s₁.heap.Ns b m → (hidT s₁.heap H).Ns b m := by
    rintro b m ⟨o, es, ep, e, d, r⟩
    exact ⟨o, es, ep, hidT_get e (other e (by rw [d]; exact fun z => nomatch z) fun us n z => by rw [d] at z; cases z), d, r⟩
  have hKb : K.In (hidT s₁.heap H) := fun b o e => hidT_get (KX b o e) (S.free b o e)
  have TB : ∀ p ∈ cs, GxR.TabB (hidT s₁.heap H) mg p.1 p.2 := by
    intro p hp
    have tp := hT p hp
    obtain ⟨o, us, file, tf, flags, tg, inF, text, tt, c1, c2, c3, c4, c5⟩ := hC p hp
    obtain ⟨bm, ob, b1, b2, b3, b4, b5, b6⟩ := hbm
    constructor
    · refine ⟨o, us, file, tf, flags, tg, inF, text, tt, hidT_get c1 (other c1 (fun z => ?_) fun us n z => ?_), c2, c3, c4, c5⟩
      · rw [c3] at z
        cases z
        simp at c4
      · rw [c3] at z
        cases z
    · refine ⟨bm, ob, b1, b2, fun z => ?_, fun z => ?_, hidT_get b3 (other b3 (by rw [b6]; exact fun z => nomatch z) fun us n z => by rw [b6] at z; cases z), b4, b5, b6⟩
      · obtain ⟨o2, es, ep, e, d, _⟩ := hns
        rw [z, e] at b3
        cases b3
        rw [d] at b6
        cases b6
      · rw [z, tp] at b3
        cases b3
        cases b6
    · intro z
      obtain ⟨o2, es, ep, e, d, _⟩ := hns
      rw [z, tp] at e
      cases e
      cases d
  obtain ⟨mc, l1, l2⟩ := hlim
  have e0 : Env0 P w K mg (hidT s₁.heap H) callerA [] s₁ H := by
    constructor
    · rfl
    · exact ⟨hKb, base_ns hns, ⟨mb, base_ns hb, hbb⟩, ⟨mc, base_ns l1, l2⟩⟩
    · exact fun b o e => of_hidT e
    · exact Nat.le_of_eq (hidT_size _ _)
    · trivial
    · intro b hb
      exact absurd (show b ∈ ([] : List Addr) from hb) (by simp)
    · exact hok
    · exact .of_eq hg
  apply codeAny_mono ((F _ hKb (base_ns hns) TB).go callerA [] s₁ H ⟨[.ref a], []⟩ [.ref a] [.ref a] _ rfl hr e0 (hbind s₁ (.ref a)) (.cons rfl .nil) hsp)
  intro r s' h
  match r, h with
  | .error _, h => exact False.elim h
  | .ok (.ret u), ⟨v, H', os, bare, un, hok', r', q⟩ =>
    subst q
    obtain rfl : u = Value.bool true := r'
    have same : ∀ b o, b ∉ cs.map (fun p => p.2) → s₁.heap.get? b = some o → s'.heap.get? b = some o := by
      intro b o nb e
      cases q : H b with
      | none => exact un.keep b o e q (by intro z; exact absurd (show b ∈ ([] : List Addr) from z) (by simp)) (by simp)
      | some u =>
        rcases S.only b u q with z | ⟨rfl, ob, xs, rfl⟩
        · exact absurd z nb
        · have q2 := un.frzs b ob _ q
          have e1 := (hok b _ q).1
          have e2 := (hok' b _ q2).1
          rw [e] at e1
          cases e1
          exact e2
    have more : ∀ b ∈ cs.map (fun p => p.2), ∃ m : Array Value, s'.heap.get? b = some { cls := .none, data := .fields m } := by
      intro b h
      obtain ⟨m, z⟩ := un.tbls b #[] (S.tbl b h)
      exact ⟨_, hok' b _ z⟩
    refine ⟨rfl, ⟨fun b o e => ?_, fun b o e => ?_⟩, os, bare⟩
    · by_cases h : b ∈ cs.map (fun p => p.2)
      · obtain ⟨m, z⟩ := more b h
        obtain ⟨p, hp, rfl⟩ := List.mem_map.mp h
        rw [hT p hp] at e
        cases e
        exact .inr (.inl ⟨((hC p hp).tab (hT p hp)).isCodeTable, rfl, #[], m, rfl, by rw [Array.empty_append]; exact z⟩)
      · exact .inl (same b o h e)
    · by_cases h : b ∈ cs.map (fun p => p.2)
      · obtain ⟨m, z⟩ := more b h
        exact ⟨_, z⟩
      · exact ⟨o, same b o h e⟩
theorem law_callGT (KX : K.In s₁.heap) (hns : s₁.heap.Ns mainGlobals mg) (hb : s₁.heap.Ns builtinsNs mb) (hbb : ∀ x : Str, x ≠ "__name__" → mb x = bootBuiltins x) (hlim : s₁.heap.NoLimit) (hg : s₁.gens = #[])
    (hT : ∀ p ∈ cs, s₁.heap.get? p.2 = some { cls := .none, data := .fields #[] }) (nT : ∀ p ∈ cs, K.lookup p.2 = none) (hC : ∀ p ∈ cs, PySem.W.CodeHd s₁.heap p.1 p.2)
    (hbm : ∃ (bm : Addr) (ob : Obj), mg "__builtins__" = some (.ref bm) ∧ bm ≠ builtinsNs ∧ s₁.heap.get? bm = some ob ∧ ob.cls = .type "module" ∧ ob.dict = some builtinsNs ∧ ob.data = .plain)
    (ha : s₁.heap.get? a = some { cls := .type "list", data := .seq vs.toArray }) (hi : IntsAre vs ns) (hl : ns.length ≤ sizeLine) (hr : Room k callerA)
    (F : ∀ base : Heap, K.In base → base.Ns mainGlobals mg → (∀ p ∈ cs, GxR.TabB base mg p.1 p.2) → FnG P w K mg base k fa fd [x] sp) (hbind : ∀ (s : Shared) (u : Value), BindsTo s fd ⟨[u], []⟩ [(x, u)])
    (hsp : ∀ H : Hp, (∀ p ∈ cs, H p.2 = some (.tbl #[])) → SqL K H a (ns.map V.int) → sp [.ref a] H (fun v _ => v = .bl true) E0) :
    codeAny (model P w) callerA (.call (.ref fa) ⟨[.ref a], []⟩) (fun r s' => r = .ok (.ret (.bool true)) ∧ PySem.OldK s₁.heap s'.heap ∧ s'.os = s₁.os ∧ AllBare s'.gens) s₁ := by
  have rv := vals_ints hi
  have atT : ∀ b ∈ cs.map (fun p => p.2), s₁.heap.get? b = some { cls := .none, data := .fields #[] } := by
    intro b h
    obtain ⟨p, hp, rfl⟩ := List.mem_map.mp h
    exact hT p hp
  have nK : ∀ b ∈ cs.map (fun p => p.2), K.lookup b = none := by
    intro b h
    obtain ⟨p, hp, rfl⟩ := List.mem_map.mp h
    exact nT p hp
  have na : a ∉ cs.map (fun p => p.2) := fun z => by
    have q := atT a z
    rw [ha] at q
    cases q
  have inT : ∀ p ∈ cs, p.2 ∈ cs.map (fun p => p.2) := fun p hp => List.mem_map.mpr ⟨p, hp, rfl⟩
  cases hk : K.lookup a with
  | some o =>
    have e := KX a o hk
    rw [ha] at e
    cases e
    have known : SqL K (trackT cs fun _ => none) a (ns.map V.int) := .inr ⟨_, vs.toArray, _, hk, rfl, rfl, rfl, by rw [List.size_toArray, hi.length]; exact hl, by simpa using rv⟩
    refine go_lawT (H := trackT cs fun _ => none) ⟨known, fun b h => trackT_in h, fun b u z => ?_, fun b o z => ?_⟩ (fun b u z => ?_) KX hns hb hbb hlim hg hT hC hbm ha hr F hbind (hsp _ (fun p hp => trackT_in (inT p hp)) known)
    · by_cases h : b ∈ cs.map (fun p => p.2)
      · exact .inl h
      · rw [trackT_out h] at z
        cases z
    · exact trackT_out fun h => by rw [nK b h] at z; cases z
    · by_cases h : b ∈ cs.map (fun p => p.2)
      · rw [trackT_in h] at z
        cases z
        exact atT b h
      · rw [trackT_out h] at z
        cases z
  | none =>
    have at_a : trackT cs (track a vs ns) a = some (.frz { cls := .type "list", data := .seq vs.toArray } (.lst (ns.map V.int))) := (trackT_out na).trans track_at
    have known : SqL K (trackT cs (track a vs ns)) a (ns.map V.int) := .inl (.inr ⟨_, at_a⟩)
    refine go_lawT (H := trackT cs (track a vs ns)) ⟨known, fun b h => trackT_in h, fun b u z => ?_, fun b o z => ?_⟩ (fun b u z => ?_) KX hns hb hbb hlim hg hT hC hbm ha hr F hbind (hsp _ (fun p hp => trackT_in (inT p hp)) known)
    · by_cases h : b ∈ cs.map (fun p => p.2)
      · exact .inl h
      · rw [trackT_out h] at z
        by_cases h2 : b = a
        · subst h2
          rw [track_at] at z
          cases z
          exact .inr ⟨rfl, _, _, rfl⟩
        · rw [track_ne h2] at z
          cases z
    · refine (trackT_out fun h => ?_).trans (track_ne ?_)
      · rw [nK b h] at z
        cases z
      · rintro rfl
        rw [hk] at z
        cases z
    · by_cases h : b ∈ cs.map (fun p => p.2)
      · rw [trackT_in h] at z
        cases z
        exact atT b h
      · rw [trackT_out h] at z
        by_cases h2 : b = a
        · subst h2
          rw [track_at] at z
          cases z
          exact ⟨ha, by rw [List.length_map]; exact hl, vs, _, rv, ha⟩
        · rw [track_ne h2] at z
          cases z
end
/-- the table of code objects of the def y, as the top leaves it: empty -/
def TabE (K : PySem.W.Frag) (y : Str) (mg : Str → Option Value) (h : Heap) : Prop := ∀ (f c T : Addr) (o : Obj) (fd : FuncData) (e : Value) (dd : Option Addr) (us : Array Value) (sl : Array (Option Value)),
  mg y = some (.ref f) → K.lookup f = some o → o.data = .func fd → fd.code = .ref c → K.lookup c = some ⟨e, dd, .fields us, sl⟩ → us[11]? = some (.ref T) → h.get? T = some { cls := .none, data := .fields #[] }
theorem walk_ofGT {l : PySem.W.OpenLaw} {n k : Nat} {q : Program} {loose : List Str} {XP : (Str → Option Value) → Heap → Prop} {YP : World → Heap → Prop} {d : DefRec} {K : Params → PySem.W.Frag} {sp : World → Sp} {x y : Str}
    (hn : l.most = some n) (hn2 : n ≤ sizeLine) (hdf : d.params.defaults = []) (hr : Room k callerA) (hrec : ((recsOf q).any fun e => e.name == y) = true) (hY : ∀ (w : World) (h : Heap), YP w h → (K w.params).In h)
    (F : ∀ (w : World) (mg : Str → Option Value) (fa : Addr) (h : Heap), (K w.params).In h → h.Ns mainGlobals mg → mg d.name = some (.ref fa) → TabE (K w.params) y mg h →
      ∃ (fd : FuncData) (cs : List (Addr × Addr)), (∀ p ∈ cs, h.get? p.2 = some { cls := .none, data := .fields #[] }) ∧ (∀ p ∈ cs, (K w.params).lookup p.2 = none) ∧ (∀ p ∈ cs, PySem.W.CodeHd h p.1 p.2) ∧ (∀ (s : Shared) (u : Value), BindsTo s fd ⟨[u], []⟩ [(x, u)]) ∧
        (∀ (H : Hp) (a : Addr) (ns : List Int), ns.length ≤ n → (∀ p ∈ cs, H p.2 = some (.tbl #[])) → SqL (K w.params) H a (ns.map V.int) → sp w [.ref a] H (fun v _ => v = .bl true) E0) ∧
        ∀ base : Heap, (K w.params).In base → base.Ns mainGlobals mg → (∀ p ∈ cs, GxR.TabB base mg p.1 p.2) → FnG l.prog w (K w.params) mg base k fa fd [x] (sp w)) :
    PySem.W.WalkO q loose XP YP l.row.toRowW d [] (fun f vs => PySem.call f vs) := by
  apply Att.attach_call hn hdf
  intro w s₀ s₁ mg mb fa o pm cd doc a vs ns G Y _ _ _ hmg hobj hints hlen hg
  have KX := hY w _ Y
  have empty : TabE (K w.params) y mg s₁.heap := by
    intro f c T o1 fd1 e dd us sl k0 k1 k2 k3 k4 k5
    obtain ⟨dL, mem, nm⟩ := List.any_eq_true.mp hrec
    obtain ⟨a2, o2, fd2, c2, T2, h1, h2, h3, h4, _, ⟨oc, vc, t1, _, t3, t4⟩, hT⟩ := G.T.tab dL mem
    rw [beq_iff_eq.mp nm, k0] at h1
    cases h1
    rw [KX _ _ k1] at h2
    cases h2
    rw [k2] at h3
    cases h3
    rw [k3] at h4
    cases h4
    rw [KX _ _ k4] at t1
    cases t1
    cases t3
    rw [k5] at t4
    cases t4
    exact hT
  obtain ⟨fd, cs, hT, nT, hC, hb, hsp, hF⟩ := F w mg fa _ KX G.T.g hmg empty
  exact law_callGT KX G.T.g G.T.b G.T.builtins G.T.nolimit hg hT nT hC G.T.bmain hobj hints (Nat.le_trans hlen hn2) hr hF hb fun H hH hS => hsp H a ns hlen hH hS
theorem walk_ofGK {l : PySem.W.OpenLaw} {n k : Nat} {q : Program} {loose : List Str} {XP : (Str → Option Value) → Heap → Prop} {YP : World → Heap → Prop} {d : DefRec} {K : Params → PySem.W.Frag} {sp : PySem.W.Frag → Addr → Sp} {PA : Addr} {x y : Str}
    (hn : l.most = some n) (hn2 : n ≤ sizeLine) (hdf : d.params.defaults = []) (hr : Room k callerA) (hrec : ((recsOf q).any fun e => e.name == y) = true) (hY : ∀ (w : World) (h : Heap), YP w h → (K w.params).In h)
    (F : ∀ (w : World) (mg : Str → Option Value) (fa : Addr) (h : Heap), (K w.params).In h → h.Ns mainGlobals mg → mg d.name = some (.ref fa) → TabE (K w.params) y mg h →
      ∃ (fd : FuncData) (cs : List (Addr × Addr)), (∀ p ∈ cs, h.get? p.2 = some { cls := .none, data := .fields #[] }) ∧ (∀ p ∈ cs, (K w.params).lookup p.2 = none) ∧ (∀ p ∈ cs, PySem.W.CodeHd h p.1 p.2) ∧ (∀ (s : Shared) (u : Value), BindsTo s fd ⟨[u], []⟩ [(x, u)]) ∧
        (∀ (H : Hp) (a : Addr) (ns : List Int), ns.length ≤ n → (∀ p ∈ cs, H p.2 = some (.tbl #[])) → SqL (K w.params) H a (ns.map V.int) → sp (K w.params) PA [.ref a] H (fun v _ => v = .bl true) E0) ∧
        ∀ base : Heap, (K w.params).In base → base.Ns mainGlobals mg → (∀ p ∈ cs, GxR.TabB base mg p.1 p.2) → FnG l.prog w (K w.params) mg base k fa fd [x] (sp (K w.params) PA)) :
    PySem.W.WalkO q loose XP YP l.row.toRowW d [] (fun f vs => PySem.call f vs) :=
  walk_ofGT (sp := fun w => sp (K w.params) PA) hn hn2 hdf hr hrec hY F
theorem walk_ofGL {l : PySem.W.OpenLaw} {n k : Nat} {q : Program} {loose : List Str} {XP : (Str → Option Value) → Heap → Prop} {YP : World → Heap → Prop} {d : DefRec} {K : Params → PySem.W.Frag} {sp : PySem.W.Frag → List Addr → Sp} {PA : List Addr} {x : Str} {ys : List Str}
    (hn : l.most = some n) (hn2 : n ≤ sizeLine) (hdf : d.params.defaults = []) (hr : Room k callerA) (hrec : (ys.all fun y => (recsOf q).any fun e => e.name == y) = true) (hY : ∀ (w : World) (h : Heap), YP w h → (K w.params).In h)
    (F : ∀ (w : World) (mg : Str → Option Value) (fa : Addr) (h : Heap), (K w.params).In h → h.Ns mainGlobals mg → mg d.name = some (.ref fa) → (∀ y ∈ ys, TabE (K w.params) y mg h) →
      ∃ (fd : FuncData) (cs : List (Addr × Addr)), (∀ p ∈ cs, h.get? p.2 = some { cls := .none, data := .fields #[] }) ∧ (∀ p ∈ cs, (K w.params).lookup p.2 = none) ∧ (∀ p ∈ cs, PySem.W.CodeHd h p.1 p.2) ∧ (∀ (s : Shared) (u : Value), BindsTo s fd ⟨[u], []⟩ [(x, u)]) ∧
        (∀ (H : Hp) (a : Addr) (ns : List Int), ns.length ≤ n → (∀ p ∈ cs, H p.2 = some (.tbl #[])) → SqL (K w.params) H a (ns.map V.int) → sp (K w.params) PA [.ref a] H (fun v _ => v = .bl true) E0) ∧
        ∀ base : Heap, (K w.params).In base → base.Ns mainGlobals mg → (∀ p ∈ cs, GxR.TabB base mg p.1 p.2) → FnG l.prog w (K w.params) mg base k fa fd [x] (sp (K w.params) PA)) :
    PySem.W.WalkO q loose XP YP l.row.toRowW d [] (fun f vs => PySem.call f vs) := by
  apply Att.attach_call hn hdf
  intro w s₀ s₁ mg mb fa o pm cd doc a vs ns G Y _ _ _ hmg hobj hints hlen hg
  have KX := hY w _ Y
  have empty : ∀ y ∈ ys, TabE (K w.params) y mg s₁.heap := by
    intro y hy f c T o1 fd1 e dd us sl k0 k1 k2 k3 k4 k5
    obtain ⟨dL, mem, nm⟩ := List.any_eq_true.mp (List.all_eq_true.mp hrec y hy)
    obtain ⟨a2, o2, fd2, c2, T2, h1, h2, h3, h4, _, ⟨oc, vc, t1, _, t3, t4⟩, hT⟩ := G.T.tab dL mem
    rw [beq_iff_eq.mp nm, k0] at h1
    cases h1
    rw [KX _ _ k1] at h2
    cases h2
    rw [k2] at h3
    cases h3
    rw [k3] at h4
    cases h4
    rw [KX _ _ k4] at t1
    cases t1
    cases t3
    rw [k5] at t4
    cases t4
    exact hT
  obtain ⟨fd, cs, hT, nT, hC, hb, hsp, hF⟩ := F w mg fa _ KX G.T.g hmg empty
  exact law_callGT KX G.T.g G.T.b G.T.builtins G.T.nolimit hg hT nT hC G.T.bmain hobj hints (Nat.le_trans hlen hn2) hr hF hb fun H hH hS => hsp H a ns hlen hH hS
end Jf
set_option Elab.async false
set_option linter.all false
set_option maxRecDepth 100000
set_option maxHeartbeats 4000000
namespace Jf
open PySem PySem.Spec PyProof.Rows L2 Evl
/-! ### sum of a generator over a list of pairs of ints, with one captured int -/
/-- the generator's own scope: two names, one captured -/
structure GenT (scope : Scope) (xa xb xc : Str) : Prop where
  kind : scope.kind = .function
  co : scope.isCoroutine = false
  cell : ∀ y ∈ scope.names, y.2 ≠ .cell
  dot : scope.names.lookup (".0" : Str) = some NameKind.local
  la : scope.names.lookup xa = some .local
  lb : scope.names.lookup xb = some .local
  lc : scope.names.lookup xc = some .free
  ne : xa ≠ xb
  only : ∀ y ∈ scope.names, y.2 = .free → y.1 = xc
  clo : ∀ cells : List (Str × Addr), (cloFrom cells scope.names []).lookup xc = some ((cells.lookup xc).getD 0)
/-- the element: an int of the two and the captured one -/
def EltT (prog : Program) (w : World) (scope : Scope) (xa xb xc : Str) (elt : Expr) (ok : Int → Int → Int → Prop) (g : Int → Int → Int → Int) : Prop :=
  ∀ (cenv : Env) (B : Around) (E : Value → Shared → Prop) (a b d : Int) (ta tb td : Tok) (c : Addr) (s : Shared) (m : Str → Option Value), cenv.scope = scope → ok a b d → s.heap.Ns cenv.locals m → m xa = some (.int a ta) → m xb = some (.int b tb) →
    cenv.cells.lookup xc = some c → s.heap.IsCell c (some (.int d td)) → wpAny (model prog w) B (eval elt cenv) (fun y s1 => (∃ t, y = .int (g a b d) t) ∧ Keeps s s1) E s
abbrev Prs := List (Addr × Int × Int)
def valP (ps : Prs) (d : Int) (g : Int → Int → Int → Int) (j : Nat) : Int := match ps[j]? with
  | some p => g p.2.1 p.2.2 d
  | none => 0
theorem valP_some {ps : Prs} {d : Int} {g : Int → Int → Int → Int} {j : Nat} {p : Addr × Int × Int} (h : ps[j]? = some p) : valP ps d g j = g p.2.1 p.2.2 d := by
  unfold valP
  rw [h]
def sumP (ps : Prs) (d : Int) (g : Int → Int → Int → Int) : Int := (ps.map fun p => g p.2.1 p.2.2 d).sum
theorem preSum_sumP (ps : Prs) (d : Int) (g : Int → Int → Int → Int) : preSum (valP ps d g) ps.length = sumP ps d g := by
  have step : ∀ n, n ≤ ps.length → preSum (valP ps d g) n = sumP (ps.take n) d g := by
    intro n
    induction n with
    | zero => intro _; rfl
    | succ n ih =>
      intro h
      have hn : n < ps.length := h
      have e := List.getElem?_eq_getElem hn
      show preSum (valP ps d g) n + valP ps d g n = _
      rw [ih (Nat.le_of_lt hn), valP_some e, List.take_succ, e]
      unfold sumP
      simp only [Option.toList_some, List.map_append, List.sum_append, List.map_cons, List.map_nil, List.sum_cons, List.sum_nil, Int.add_zero]
  rw [step _ (Nat.le_refl _), List.take_length]
section
variable {X : Cx} {pins : List (Addr × Obj)} {σ : L2.St} {H : Hp} {s : Shared}
/-- the generator's code: found in the def's table, or put there -/
theorem gcode {env : Env} {scope : Scope} {gpos : Pos} {nm : Str} {c P : Addr} {tb : Array Value} {s2 : Shared} {prog : Program} {w : World} {A : Around} {E : Value → Shared → Prop} {Ψ : Value → Shared → Prop} (hcode : env.code = .ref c)
    (cd : PySem.W.CodeHd s2.heap c P) (hP : s2.heap.get? P = some { cls := .none, data := .fields tb }) (ht : TriplesOk tb.toList)
    (rest : ∀ (code : Value) (h3 : Heap) (n3 : Nat) (tb3 : Array Value), Heap.ExtBut P s2.heap h3 → s2.heap.objs.size ≤ h3.objs.size → h3.get? P = some { cls := .none, data := .fields tb3 } → (∃ more, tb3 = tb ++ more) → TriplesOk tb3.toList → Ψ code { s2 with heap := h3, toks := n3 }) :
    wpAny (model prog w) A (genexprCode env gpos nm scope) Ψ E s2 := by
  cases found : codeAmong gpos tb.toList with
  | some cv =>
    apply wpAny_genexprCode_hit hcode (cd.code hP ht) found
    exact rest cv s2.heap s2.toks tb (Heap.ExtBut.refl _ _) (Nat.le_refl _) hP ⟨#[], by simp⟩ ht
  | none =>
    apply wpAny_genexprCodeX hcode (cd.code hP ht) (cd.tab hP) found
    intro c' h' n' hx ge lt co _ tab _
    obtain ⟨_, _, _, _, _, _, _, _, _, _, _, _, _, _, _, _, _, _, _, tr, _⟩ := co
    exact rest _ h' n' _ hx (Nat.le_trans ge (Nat.le_of_lt lt)) tab.2 ⟨_, rfl⟩ tr
/-- ready to be walked -/
def ReadyP (X : Cx) (pins : List (Addr × Obj)) (σ : L2.St) (H1 : Hp) (P : Addr) (ps : Prs) (d : Int) (g : Int → Int → Int → Int) (a : Addr) (s5 : Shared) : Prop :=
  ∃ (fp wr : List Addr) (G : Array GenState → Array GenState → Prop) (F : Nat → Value → Prop) (St : Nat → Shared → Prop),
    WalksS X.prog X.w X.A.in1 a fp wr G ps.length F St ∧ St 0 s5 ∧ (∀ b ∈ fp, b < s5.heap.objs.size) ∧ (∀ j v, F j v → ∃ t, v = .int (valP ps d g j) t) ∧ ∀ s', Moved wr G s5 s' → ∃ H2, GxR.Tabbed P H1 H2 ∧ Inv X pins σ H2 s'
/-- what the walked list holds -/
def PrsAt (K : PySem.W.Frag) (H : Hp) (yl : Addr) (ps : Prs) : Prop := SqL K H yl (ps.map fun p => V.ref p.1) ∧ ∀ p ∈ ps, SqT K H p.1 [.int p.2.1, .int p.2.2]
theorem gen_prs {c P : Addr} {elt iter : Expr} {xa xb xc : Str} {pa pb pt gpos : Pos} {kt ic k : Nat} {scope : Scope} {ok : Int → Int → Int → Prop} {g : Int → Int → Int → Int} {te : TE} {Q' : Value → Shared → Prop} {R : Prs → Int → Hp → Prop}
    (hr : Room k X.A) (TB : GxR.TabB X.base X.mg c P) (hcode : X.env.code = .ref c) (S : GenT scope xa xb xc) (hN : X.N[ic]? = some xc) (hk : X.env.kindOf xc = some .cell) (hi : PE X iter te) (hel : EltT X.prog X.w scope xa xb xc elt ok g)
    (hs : ∀ v, genFold iter X.env v = pure v) (I : Inv X pins σ H s)
    (h : te σ H fun v H1 => ∃ (yl : Addr) (ps : Prs) (d : Int), v = .ref yl ∧ PrsAt X.K H1 yl ps ∧ (∀ p ∈ ps, ok p.2.1 p.2.2 d) ∧ σ[ic]? = some (some (.int d)) ∧ GxR.TabG H1 P ∧ R ps d H1)
    (hQ : ∀ ps d H1 a s5, R ps d H1 → ReadyP X pins σ H1 P ps d g a s5 → Q' (.ref a) s5) :
    wpAny (model X.prog X.w) X.A (eval (.GeneratorExp elt [⟨.Tuple [.Name xa pa, .Name xb pb] kt pt, iter, [], 0⟩] scope gpos) X.env) Q' X.xe s := by
  obtain ⟨cc, hcc⟩ := I.ok.has xc (.inl hk)
  have hfree : ∀ y ∈ scope.names, y.2 = .free → ∃ c, X.env.cells.lookup y.1 = some c := fun y hy hf => ⟨cc, by rw [S.only y hy hf]; exact hcc⟩
  have hclo : (cloFrom X.env.cells scope.names []).lookup xc = some cc := by rw [S.clo, hcc]; rfl
  apply wpAny_GeneratorExp_walksQT hr.hd S.co (closure_ok hfree) S.cell S.dot S.la S.lb S.ne S.kind (by have := hr.dp; omega) (hs := hs)
  apply thn (hi.run pins s σ H _ I h)
  rintro xv s1 ⟨v, H1, I1, r1, yl, ps, d, rfl, ⟨hyl, hT⟩, hok, hd, ⟨tb, hP, ht⟩, q1⟩
  obtain rfl : xv = Value.ref yl := r1
  obtain ⟨its, rv, pl, hz⟩ := I1.list hyl
  have lst := pl.isList
  have nits : its.length = ps.length := by rw [← rv.length, List.length_map]
  have iat : ∀ (j : Nat) (p : Addr × Int × Int), ps[j]? = some p → its[j]? = some (Value.ref p.1) := by
    intro j p hp
    have e : (ps.map fun (p : Addr × Int × Int) => V.ref p.1)[j]? = some (V.ref p.1) := by rw [List.getElem?_map, hp]; rfl
    obtain ⟨u, hu, ru⟩ := rv.get e
    cases (show u = Value.ref p.1 from ru)
    exact hu
  have tup : ∀ j : Nat, ∃ uv : Tok × Tok, ∀ p : Addr × Int × Int, ps[j]? = some p → s1.heap.IsTuple p.1 #[.int p.2.1 uv.1, .int p.2.2 uv.2] := by
    intro j
    cases hj : ps[j]? with
    | none => exact ⟨(0, 0), fun p z => nomatch z⟩
    | some p =>
      obtain ⟨ts, tv, ⟨o, e1, e2, n, e3⟩, _⟩ := I1.tuple (hT p (List.mem_of_getElem? hj))
      cases tv with
      | cons ra rb =>
        cases rb with
        | cons rb rc =>
          cases rc
          obtain ⟨u, rfl⟩ := _root_.id ra
          obtain ⟨v, rfl⟩ := _root_.id rb
          refine ⟨(u, v), fun q z => ?_⟩
          cases z
          exact ⟨o, e1, e2, n, e3⟩
  obtain ⟨tk, htk⟩ := Classical.skolem.mp tup
  obtain ⟨uc, td, huc⟩ : ∃ (uc : Value) (td : Tok), uc = .int d td ∧ s1.heap.IsCell cc (some uc) := by
    obtain ⟨m, _, hm⟩ := I1.loc
    obtain ⟨u, ru, lk⟩ := hm ic xc (.int d) hN hd (.inr (.inl hk))
    obtain ⟨td, rfl⟩ := _root_.id ru
    rcases lk with ⟨z, _⟩ | ⟨_, c2, e2, hc2⟩
    · rw [hk] at z
      cases z
    · rw [hcc] at e2
      cases e2
      exact ⟨_, td, rfl, hc2⟩
  obtain ⟨rfl, hcell⟩ := huc
  let Ts : Nat → Addr := fun j => ((ps[j]?).map fun (p : Addr × Int × Int) => p.1).getD 0
  let vs : Nat → Array Value := fun j => ((ps[j]?).map fun (p : Addr × Int × Int) => (#[.int p.2.1 (tk j).1, .int p.2.2 (tk j).2] : Array Value)).getD #[.none, .none]
  have pat : ∀ j, j < its.toArray.size → ∃ p : Addr × Int × Int, ps[j]? = some p := fun j hj => by
    have : j < ps.length := by simpa [nits] using hj
    exact ⟨ps[j], List.getElem?_eq_getElem this⟩
  have tsT : ∀ j, j < its.toArray.size → s1.heap.IsTuple (Ts j) (vs j) := fun j hj => by
    obtain ⟨p, e⟩ := pat j hj
    have := htk j p e
    simpa only [Ts, vs, e, Option.map_some, Option.getD_some] using this
  have tlt : ∀ j, j < its.toArray.size → Ts j < s1.heap.objs.size := fun j hj => by
    obtain ⟨_, e, _⟩ := tsT j hj
    exact Heap.lt_size e
  have hit : ∀ j, j < its.toArray.size → its.toArray[j]? = some (.ref (Ts j)) := fun j hj => by
    obtain ⟨p, e⟩ := pat j hj
    have := iat j p e
    simpa only [Ts, e, Option.map_some, Option.getD_some, List.getElem?_toArray] using this
  have ylt : yl < s1.heap.objs.size := by
    obtain ⟨_, e, _⟩ := _root_.id lst
    exact Heap.lt_size e
  have WW := fun (B : Around) (hB : B.handled = none) => (WalksU.listOfTuples (prog := X.prog) (w := X.w) hB s1.heap.objs.size yl (Nat.ne_of_lt ylt) its.toArray Ts vs hit fun j hj => Nat.ne_of_lt (tlt j hj)).bound
  apply wpAny_pyIter_list lst
  generalize ho : ({ cls := .type "list_iterator", data := .fields #[.ref yl, .int 0 0] } : Obj) = it0
  have iter0 : (s1.heap.push it0).IsListIter s1.heap.objs.size yl 0 := by
    subst ho
    exact ⟨_, Heap.get?_push_size _ rfl, rfl, rfl⟩
  have old : ∀ b u, s1.heap.get? b = some u → (s1.heap.push it0).get? b = some u := fun b u e => Heap.get?_push_of_some _ e
  have tabS : s1.heap.get? P = some { cls := .none, data := .fields tb } := I1.hok P _ hP
  have Plt : P < s1.heap.objs.size := Heap.lt_size tabS
  have lim2 : (s1.heap.push it0).NoLimit := I1.nolimit.push it0
  refine ⟨lim2, ?_⟩
  refine gcode (s2 := { s1 with heap := s1.heap.push it0 }) hcode (TB.code.keeps fun b u e => old b u (I1.bk b u e)) (old _ _ tabS) ht fun code h3 n3 tb3 hx hsz hP3 hmore ht3 => ?_
  obtain ⟨bm, ob, e1, e2, e3, e4, e5, e6, e7, e8⟩ := TB.bm
  have keep3 : ∀ b u, b ≠ P → s1.heap.get? b = some u → h3.get? b = some u := fun b u hb e => hx b u hb (old b u e)
  have sz3 : s1.heap.objs.size < h3.objs.size := by
    have e : (s1.heap.push it0).objs.size = s1.heap.objs.size + 1 := Heap.size_push ..
    have hsz' : (s1.heap.push it0).objs.size ≤ h3.objs.size := hsz
    omega
  have cP : cStatics ≠ P := fun e => by
    obtain ⟨_, hns, _⟩ := I1.nolimit
    obtain ⟨o', es, ep, ho', hd', _⟩ := hns
    rw [e, tabS] at ho'
    cases ho'
    cases hd'
  have clt : cStatics < s1.heap.objs.size := by
    obtain ⟨_, hns, _⟩ := I1.nolimit
    exact hns.lt
  apply wpAny_builtinsFor (m := X.mg) (by rw [I1.ok.glob]; exact ((I1.mod.glob.keeps I1.bk).push it0).extBut hx TB.gP) e1 e2 (keep3 _ _ e4 (I1.bk _ _ e5)) e6 e7 e8
  have yP : yl ≠ P := fun z => by
    obtain ⟨_, e, hc1, _, hd1⟩ := _root_.id lst
    rw [z, tabS] at e
    cases e
    cases hd1
  have tP : ∀ j, j < its.toArray.size → Ts j ≠ P := fun j hj z => by
    obtain ⟨_, e, hc1, _⟩ := tsT j hj
    rw [z, tabS] at e
    cases e
    cases hc1
  have ccP : cc ≠ P := fun z => by
    obtain ⟨o, e, hc1⟩ := _root_.id hcell
    rw [z, tabS] at e
    cases e
    cases hc1
  have cclt : cc < s1.heap.objs.size := by
    obtain ⟨o, e, _⟩ := _root_.id hcell
    exact Heap.lt_size e
  have lst3 : h3.IsList yl its.toArray := by
    obtain ⟨ob, e, r⟩ := _root_.id lst
    exact ⟨ob, keep3 _ _ yP e, r⟩
  have iter3 : h3.IsListIter s1.heap.objs.size yl 0 := iter0.at fun u e => hx _ u (Nat.ne_of_gt Plt) e
  have ts3 : ∀ j, j < its.toArray.size → h3.IsTuple (Ts j) (vs j) := fun j hj => (tsT j hj).at fun o e => keep3 _ _ (tP j hj) e
  have cell3 : h3.IsCell cc (some (.int d td)) := by
    obtain ⟨o, e, r⟩ := _root_.id hcell
    exact ⟨o, keep3 _ _ ccP e, r⟩
  refine ⟨s1.heap.objs.size, _, _, _, _, _, _, (fun _ => true), (fun i y => ∃ (p : Addr × Int × Int) (t : Tok), ps[i]? = some p ∧ y = .int (g p.2.1 p.2.2 d) t), rfl, WW, ?_, ⟨iter3, lst3, ts3⟩, ?_, lim2.extBut hx cP, ?_, ?_, ?_⟩
  · rintro i v ⟨hi, rfl⟩
    obtain ⟨p, e⟩ := pat i hi
    exact ⟨.int p.2.1 (tk i).1, .int p.2.2 (tk i).2, by simp only [vs, e, Option.map_some, Option.getD_some]⟩
  · intro b hb
    show b < h3.objs.size
    rcases List.mem_cons.mp hb with rfl | hb
    · exact sz3
    · rcases List.mem_cons.mp hb with rfl | hb
      · exact Nat.lt_trans ylt sz3
      · obtain ⟨j, hj, rfl⟩ := List.mem_map.mp hb
        exact Nat.lt_trans (tlt j (List.mem_range.mp hj)) sz3
  · intro z
    rcases List.mem_cons.mp z with z | z
    · exact Nat.ne_of_lt clt z
    · cases z
  · intro href hhref
    refine ⟨fun B E' i va vb s₂ m₂ hB hPv hn ha hb hk => ?_, fun B E' i va vb s₂ m₂ hB hPv hp hn ha hb hk => ?_⟩
    · simp only [List.forIn_nil]
      exact wpAny_pure ⟨rfl, GxR.keeps_refl _⟩
    · obtain ⟨hi, ev⟩ := hPv
      obtain ⟨p, e⟩ := pat i hi
      simp only [vs, e, Option.map_some, Option.getD_some] at ev
      obtain ⟨rfl, rfl⟩ : va = .int p.2.1 (tk i).1 ∧ vb = .int p.2.2 (tk i).2 := by simpa using congrArg Array.toList ev
      have c2 : s₂.heap.IsCell cc (some (.int d td)) := by
        obtain ⟨o, e9, r⟩ := _root_.id cell3
        refine ⟨o, hk cc ?_ ?_ o (hhref _ _ e9), r⟩
        · exact List.mem_range.mpr (Nat.lt_trans cclt sz3)
        · intro z
          rcases List.mem_cons.mp z with z | z
          · exact Nat.ne_of_lt cclt z
          · cases z
      exact wpAny_mono (hel _ B E' p.2.1 p.2.2 d _ _ td cc s₂ m₂ rfl (hok p (List.mem_of_getElem? e)) hn ha hb hclo c2) (fun y s3 r => ⟨⟨p, r.1.choose, e, r.1.choose_spec⟩, r.2⟩) fun _ _ e => e
  · intro a h5 n5 gs bare gt hsz5 hk5 W5 at5
    simp only [GxR.passing_true, List.length_range] at W5
    have nI : its.toArray.size = ps.length := by rw [List.size_toArray, nits]
    rw [nI] at W5 at5
    refine hQ ps d H1 a _ q1 ⟨_, _, _, _, _, W5.in4_1, at5, ?_, fun j v hv => ?_, fun s' mv => ?_⟩
    · intro b hb
      show b < h5.objs.size
      have e5 : h5.objs.size = a + 1 := hsz5
      have e3 : h3.objs.size < a := gt
      rw [e5]
      rcases List.mem_cons.mp hb with rfl | hb
      · exact Nat.lt_succ_self _
      · rcases List.mem_cons.mp hb with rfl | hb
        · exact Nat.lt_succ_of_lt e3
        · exact Nat.lt_succ_of_lt (Nat.lt_trans (show b < h3.objs.size from List.mem_range.mp hb) e3)
    · obtain ⟨i, hij, p, t, e, rfl⟩ := hv
      obtain ⟨hj, ej⟩ := List.getElem?_eq_some_iff.mp hij
      rw [List.getElem_range] at ej
      subst ej
      exact ⟨t, by rw [valP_some e]⟩
    · obtain ⟨more, em⟩ := hmore
      have apart : ∀ b u, s1.heap.get? b = some u → b ∉ h3.objs.size :: [s1.heap.objs.size] := by
        intro b u e hb
        have l := Heap.lt_size e
        rcases List.mem_cons.mp hb with z | z
        · rw [z] at l
          exact Nat.lt_asymm (show h3.objs.size < s1.heap.objs.size from l) sz3
        · rcases List.mem_cons.mp z with z | z
          · rw [z] at l
            exact Nat.lt_irrefl _ l
          · cases z
      have J := GxR.inv_tab (more := more) (h' := s'.heap) (g' := s'.gens) (d' := s'.drawn) (t' := s'.toks) I1 hP (fun b u hb e => mv.heap b u (apart b u e) (hk5 b u (keep3 b u hb e)))
        (by rw [← em]; exact mv.heap P _ (apart P _ tabS) (hk5 P _ hP3)) (AllBare.movedS (I1.bare.push bare) mv)
      rw [GxR.sh_eta s1 s' mv.os] at J
      exact ⟨_, ⟨⟨tb ++ more, upd_same, by rw [← em]; exact ht3⟩, fun b hb => upd_ne hb⟩, J⟩
/-- sum(elt for xa, xb in te); behind it the def's table may have grown -/
def tSumP (K : PySem.W.Frag) (P : Addr) (ok : Int → Int → Int → Prop) (g : Int → Int → Int → Int) (ic : Nat) (te : TE) : TE := fun σ H Q => te σ H fun v H1 =>
  ∃ (yl : Addr) (ps : Prs) (d : Int), v = .ref yl ∧ PrsAt K H1 yl ps ∧ (∀ p ∈ ps, ok p.2.1 p.2.2 d) ∧ σ[ic]? = some (some (.int d)) ∧ GxR.TabG H1 P ∧ ∀ H2, GxR.Tabbed P H1 H2 → Q (.int (sumP ps d g)) H2
theorem pe_sumP {c P : Addr} {elt iter : Expr} {xa xb xc : Str} {pa pb pt gpos p pos : Pos} {kt ic k : Nat} {scope : Scope} {ok : Int → Int → Int → Prop} {g : Int → Int → Int → Int} {te : TE}
    (hr : Room k X.A) (hg : Gl X "sum") (hm : X.mg "sum" = none) (TB : GxR.TabB X.base X.mg c P) (hcode : X.env.code = .ref c) (S : GenT scope xa xb xc) (hN : X.N[ic]? = some xc) (hk : X.env.kindOf xc = some .cell) (hi : PE X iter te) (hel : EltT X.prog X.w scope xa xb xc elt ok g)
    (hs : ∀ v, genFold iter X.env v = pure v) (hb : bootBuiltins "sum" = some (.builtin "sum") := by decide +kernel)
    (he : starEach [.GeneratorExp elt [⟨.Tuple [.Name xa pa, .Name xb pb] kt pt, iter, [], 0⟩] scope gpos] X.env = (false, eval (.GeneratorExp elt [⟨.Tuple [.Name xa pa, .Name xb pb] kt pt, iter, [], 0⟩] scope gpos) X.env) :: starEach [] X.env := by rfl) :
    PE X (.Call (.Name "sum" p) [.GeneratorExp elt [⟨.Tuple [.Name xa pa, .Name xb pb] kt pt, iter, [], 0⟩] scope gpos] [] pos) (tSumP X.K P ok g ic te) := by
  constructor
  intro pins s σ H Q I want
  apply wpAny_Call_Name_kw (ld_blt I hg hm hb ?_)
  apply PyProof.Rows.callWith_builtin1 ?_ he (by rfl)
  rw [he]
  show wpAny _ _ (spliced ((false, eval (.GeneratorExp elt [⟨.Tuple [.Name xa pa, .Name xb pb] kt pt, iter, [], 0⟩] scope gpos) X.env) :: backTo pos (starEach [] X.env))) _ _ s
  apply Calls.spliced_cons (gen_prs (R := fun ps d H1 => ∀ H2, GxR.Tabbed P H1 H2 → Q (.int (sumP ps d g)) H2) hr TB hcode S hN hk hi hel hs I want ?_)
  intro ps d H1 a s5 k5 ready
  obtain ⟨fp, wr, G, F, St, W, st0, below, vals, ends⟩ := ready
  apply Calls.spliced_nil
  apply call_sum_walkAnyS
  refine W.self 0 _ _ _ st0 ⟨a, fp, wr, G, _, F, St, valP ps d g, rfl, W, st0, below, vals, fun s' t' mv => ?_⟩
  obtain ⟨H2, tabbed, J⟩ := ends s' mv
  rw [preSum_sumP]
  exact ⟨.int _, H2, J, ⟨t', rfl⟩, k5 H2 tabbed⟩
end
/-! ### the element top * (bottom // below) -/
def okCut (a b d : Int) : Prop := CDivZ d b ∧ CMulW a (d.fdiv b)
def gCut (a b d : Int) : Int := a * d.fdiv b
theorem elt_cut {prog : Program} {w : World} {scope : Scope} {xa xb xc : Str} {p1 p2 p3 p4 p5 : Pos} (S : GenT scope xa xb xc) (da : (xa == ("__debug__" : Str)) = false := by decide) (db : (xb == ("__debug__" : Str)) = false := by decide) (dc : (xc == ("__debug__" : Str)) = false := by decide)
    (dk : (xc == ("__classdict__" : Str)) = false := by decide) :
    EltT prog w scope xa xb xc (.BinOp (.Name xa p1) .Mult (.BinOp (.Name xc p2) .FloorDiv (.Name xb p3) p4) p5) okCut gCut := by
  intro cenv B E a b d ta tb td c s m hs ho hn ha hb hc hcell
  have kf : cenv.scope.kind = .function := by rw [hs]; exact S.kind
  have la : cenv.kindOf xa = some .local := by show cenv.scope.names.lookup xa = _; rw [hs]; exact S.la
  have lb : cenv.kindOf xb = some .local := by show cenv.scope.names.lookup xb = _; rw [hs]; exact S.lb
  have lc : cenv.kindOf xc = some .free := by show cenv.scope.names.lookup xc = _; rw [hs]; exact S.lc
  apply wpAny_BinOp
  apply wpAny_Name (wpAny_loadName_local kf la hn ha ?_) da
  apply wpAny_BinOp
  apply wpAny_Name (wpAny_loadName_free kf lc hc hcell ?_ dk) dc
  apply wpAny_Name (wpAny_loadName_local kf lb hn hb ?_) db
  apply floordiv_int ho.1.1 ?_ (.inl (PyProof.noPylong_of_log2 ho.1.2))
  apply mul_int ?_ ho.2.ok
  exact ⟨⟨_, rfl⟩, GxR.keeps_tok _ _⟩
end Jf
set_option Elab.async false
set_option linter.all false
set_option maxRecDepth 100000
set_option maxHeartbeats 4000000
namespace Jf
open PySem PySem.Spec PyProof.Rows L2 Evl GxR GenW
/-! ### all(e for x in a tuple), e of any kind that the layer reads -/
/-- the inner scope: one name, nothing captured -/
structure OneN (scope : Scope) (x : Str) : Prop where
  kind : scope.kind = .function
  co : scope.isCoroutine = false
  cell : ∀ y ∈ scope.names, y.2 ≠ .cell
  dot : scope.names.lookup (".0" : Str) = some NameKind.local
  loc : scope.names.lookup x = some .local
  free : ∀ y ∈ scope.names, y.2 ≠ .free
  ne : (".0" : Str) ≠ x
/-- the inner context: the callers' frames behind it, the walked iterator free to turn -/
def gxOf (X : Cx) (x : Str) (s : Shared) (H : Hp) (cenv : Env) (B : Around) (I : Addr) : Cx where
  prog := X.prog
  w := X.w
  K := X.K
  mg := X.mg
  base := X.base
  A := B
  N := [".0", x]
  s_0 := s
  H_0 := H
  env := cenv
  outer := X.stack
  stack := cenv :: X.stack
  ex := [I]
  fn := fun _ => true
  calm := true
  pn := []
  xe := fun _ _ => False
/-- the reading: from the left, till one says no -/
def rdAll (te : TE) : List V → Hp → (Bool → Hp → Prop) → Prop
  | [], H, Q => Q true H
  | v :: vs, H, Q => te [none, some v] H fun r H' => ∃ b, r = .bl b ∧ (b = true → rdAll te vs H' Q) ∧ (b = false → Q false H')
section
variable {X : Cx}
/-- where the generator stands: its object, its iterator -/
def gPins (a I t : Addr) (go : Obj) (i : Nat) (io : Obj) : List (Addr × Obj) := [(a, go), (I, io)]
def GInv (Y : Cx) (a I t : Addr) (go : Obj) (i : Nat) (H : Hp) (s : Shared) : Prop :=
  ∃ (σ : L2.St) (io : Obj), σ.length = 2 ∧ σ[0]? = some none ∧ io.cls = .type "tuple_iterator" ∧ io.data = .fields #[.ref t, .int i 0] ∧ Inv Y [(a, go), (I, io)] σ H s
def gDone (Y : Cx) (Q : Bool → Hp → Prop) (_ : Nat) (_ s : Shared) : Prop := ∃ σ H, Inv Y [] σ H s ∧ Q true H
def gEnd (Y : Cx) (Q : Bool → Hp → Prop) : GenEnd := fun n s₀ r s => ((r = .ok (.ret .none) ∨ r = .ok .next) ∧ gDone Y Q n s₀ s) ∨ ∃ e, r = .error e ∧ False
def gProt (Y : Cx) (a I t : Addr) (go : Obj) (Q : Bool → Hp → Prop) : Protocol := fun _ _ v s kap =>
  ∃ b i H, v = .bool b ∧ GInv Y a I t go i H s ∧ (b = false → Q false H) ∧ (b = true → ∀ s', s'.os = s.os → AllBare s'.gens → s'.heap = s.heap → kap (.send .none) s')
theorem GInv.woke {Y : Cx} {a I t : Addr} {go : Obj} {i : Nat} {H : Hp} {s s' : Shared} (h : GInv Y a I t go i H s) (o : s'.os = s.os) (g : AllBare s'.gens) (e : s'.heap = s.heap) : GInv Y a I t go i H s' := by
  obtain ⟨σ, io, l, z, c, d, J⟩ := h
  refine ⟨σ, io, l, z, c, d, J.call' (ch := []) o ?_ ?_ g fun b z => by simp at z⟩
  · rw [e]
    exact Un.kept fun _ _ q => q
  · rw [e]
    exact J.hok
theorem Inv.sqt {Y : Cx} {pins : List (Addr × Obj)} {σ : L2.St} {H : Hp} {s : Shared} {t : Addr} {xs : List V} (J : Inv Y pins σ H s) (h : SqT Y.K Y.H_0 t xs) : SqT Y.K H t xs := by
  rcases h with (h | ⟨o, h⟩) | h
  · exact .inl (.inl (J.base.tups _ _ h))
  · exact .inl (.inr ⟨o, J.base.frzs _ _ _ h⟩)
  · exact .inr h
theorem GInv.turn {Y : Cx} {a I : Addr} {go io : Obj} {σ : L2.St} {H : Hp} {s : Shared} {h' : Heap} (J : Inv Y [(a, go), (I, io)] σ H s) (hex : I ∈ Y.ex) (haI : a ≠ I) (hpn : Y.pn = []) (hcl : Y.env.cells = [])
    (k : ∀ b o, b ≠ I → s.heap.get? b = some o → h'.get? b = some o) : Inv Y [(a, go)] σ H { s with heap := h' } := by
  have pI := J.pin (I, io) (List.mem_append_right _ (by simp))
  have J0 : Inv Y [(a, go)] σ H s := J.pins_of fun p hp => J.pin p (List.mem_append_right _ (by
    rw [List.mem_singleton.mp hp]
    simp))
  refine J0.turned (t' := s.toks) k pI.2.1 pI.2.2.1 (.inl hex) (fun y c e => ?_) fun p hp => ?_
  · rw [hcl] at e
    cases e
  · rw [hpn, List.nil_append, List.mem_singleton] at hp
    rw [hp]
    exact haI
theorem seg_allLoop {Y : Cx} {Aw : Around} {elt iter : Expr} {x : Str} {px pos : Pos} {scope : Scope} {a I t : Addr} {go : Obj} {xs : List V} {te : TE} {Q : Bool → Hp → Prop}
    (hA : Aw.handled = none) (hY : Y.A = Aw.over (.compLoop (.GeneratorExp elt [⟨.Name x px, iter, [], 0⟩] scope pos) 0 (.ref I) .none Y.env) [])
    (hN : Y.N = [(".0" : Str), x]) (S : OneN scope x) (hsc : Y.env.scope = scope) (hcl : Y.env.cells = []) (hex : I ∈ Y.ex) (haI : a ≠ I) (hIt : t ≠ I) (hpn : Y.pn = []) (hxe : Y.xe = fun _ _ => False)
    (hel : PE Y elt te) (hT : SqT Y.K Y.H_0 t xs) (hgo : ∀ v, go.data ≠ .cell v) :
    ∀ (vs : List V) (i : Nat) (H : Hp) (s₀ s : Shared), xs.drop i = vs → GInv Y a I t go i H s → rdAll te vs H Q →
      Seg (model Y.prog Y.w) Aw (gEnd Y Q) (gProt Y a I t go Q) vs.length s₀ (.compLoop (.GeneratorExp elt [⟨.Name x px, iter, [], 0⟩] scope pos) 0 (.ref I) .none Y.env)
        ((model Y.prog Y.w).den (.compLoop (.GeneratorExp elt [⟨.Name x px, iter, [], 0⟩] scope pos) 0 (.ref I) .none Y.env)) [] s := by
  have hh' : (Aw.over (.compLoop (.GeneratorExp elt [⟨.Name x px, iter, [], 0⟩] scope pos) 0 (.ref I) .none Y.env) []).handled = none := hA
  have hco : Y.env.scope.isCoroutine = false := by rw [hsc]; exact S.co
  intro vs
  induction vs with
  | nil =>
    intro i H s₀ s hd hG hr
    obtain ⟨σ, io, l, z, hc, hdd, J⟩ := hG
    obtain ⟨its, rv, tp, _⟩ := J.tuple (Inv.sqt J hT)
    have pI := J.pin (I, io) (List.mem_append_right _ (by simp))
    have hlen : its.toArray[i]? = none := by
      have h1 := rv.length
      have h2 : xs.length ≤ i := List.drop_eq_nil_iff.mp hd
      rw [List.getElem?_toArray]
      exact List.getElem?_eq_none (by omega)
    show Seg _ Aw _ _ _ s₀ _ ((compTurn (.GeneratorExp elt [⟨.Name x px, iter, [], 0⟩] scope pos) 0 (.ref I) .none Y.env).onRaise (leaving Y.env)) [] s
    rw [compTurn_gen, Sem.onRaise_eq_wrap]
    refine seg_bind_wrap (wpAny_standAt ?_)
    refine seg_bind_wrap (wpAny_pyNext_tuple_end hh' ⟨io, pI.1, hc, hdd⟩ tp hlen fun h' hx => ?_)
    refine seg_end (.ok .next) (.inl ⟨.inr rfl, σ, H, ?_, hr⟩)
    exact (GInv.turn J hex haI hpn hcl fun b o hb e => hx b o hb e).pins_of fun p hp => by simp at hp
  | cons v vs ih =>
    intro i H s₀ s hd hG hr
    obtain ⟨σ, io, l, z, hc, hdd, J⟩ := hG
    obtain ⟨its, rv, tp, _⟩ := J.tuple (Inv.sqt J hT)
    have pI := J.pin (I, io) (List.mem_append_right _ (by simp))
    have pa := J.pin (a, go) (List.mem_append_right _ (by simp))
    have hxi : xs[i]? = some v := by
      have := congrArg (fun q : List V => q[0]?) hd
      simpa using this
    have hd2 : xs.drop (i + 1) = vs := by
      have := congrArg List.tail hd
      simpa [List.tail_drop] using this
    obtain ⟨u, hu, ru⟩ := rv.get hxi
    show Seg _ Aw _ _ _ s₀ _ ((compTurn (.GeneratorExp elt [⟨.Name x px, iter, [], 0⟩] scope pos) 0 (.ref I) .none Y.env).onRaise (leaving Y.env)) [] s
    rw [compTurn_gen, Sem.onRaise_eq_wrap]
    refine seg_bind_wrap (wpAny_standAt ?_)
    refine seg_bind_wrap (wpAny_pyNext_tuple_item (i := i) (x := u) ⟨io, pI.1, hc, hdd⟩ tp (by rw [List.getElem?_toArray]; exact hu) fun h' it' sb => ?_)
    obtain ⟨io', hio', hc', hd'⟩ := it'
    have J1 : Inv Y [(a, go), (I, io')] σ H { s with heap := h' } := by
      have J0 := GInv.turn J hex haI hpn hcl fun b o hb e => sb.extBut b o hb e
      refine J0.pins_of fun p hp => ?_
      rcases List.mem_cons.mp hp with rfl | hp
      · exact J0.pin _ (List.mem_append_right _ (by simp))
      · rw [List.mem_singleton] at hp
        subst hp
        exact ⟨hio', pI.2.1, pI.2.2.1, pI.2.2.2.1, fun v q => by rw [hd'] at q; cases q⟩
    refine seg_bind_wrap (wpAny_of_eq (rfl : letOwnedTupleGo (.Name x px) (.ref I) u = pure ()) ?_)
    have nd : Y.N.Nodup := by
      rw [hN]
      simp [S.ne]
    have lc : Loc Y.env.scope x := by
      rw [hsc]
      exact .inl S.loc
    refine seg_bind_wrap ?_
    rw [← hY]
    refine wpAny_mono ((pg_name (X := Y) (pos := px) (i := 1) (x := x) nd (by rw [hN]; rfl) lc (by right; rw [hsc]; exact S.loc)).run _ _ σ H v u (fun σ' H' => σ' = [none, some v] ∧ H' = H) J1 ru ?_) (fun _ s2 h2 => ?_) fun e s' hx => by rw [hxe] at hx; exact hx.elim
    · refine ⟨?_, rfl⟩
      match σ, l, z with
      | [none, y], _, _ => rfl
      | [some _, y], _, z => simp at z
    obtain ⟨σ2, H2, J2, rfl, rfl⟩ := h2
    refine seg_bind_wrap ?_
    simp only [List.forIn_nil]
    refine wpAny_pure ?_
    simp only [if_true]
    have hy : ∀ v, yieldOut Y.env v = yieldValue v := fun v => by simp only [yieldOut, hco, Bool.false_eq_true, if_false]
    simp only [hy]
    rw [Sem.bind_eq_wrap', Sem.bind_eq_wrap', Sem.wrap_wrap, Sem.wrap_wrap]
    refine seg_wrap ?_
    rw [← hY]
    refine wpAny_mono (hel.run _ _ _ _ _ J2 hr) (fun y s3 h3 => ?_) fun e s' hx => by rw [hxe] at hx; exact hx.elim
    obtain ⟨r, H3, J3, rr, b, rfl, ht, hf⟩ := h3
    obtain rfl : y = Value.bool b := rr
    have G3 : GInv Y a I t go (i + 1) H3 s3 := ⟨_, io', rfl, rfl, hc', hd', J3⟩
    refine seg_at (seg_yield rfl rfl rfl ⟨b, i + 1, H3, rfl, G3, hf, fun hb s' o g e => ?_⟩)
    exact seg_again rfl (ih (i + 1) H3 s' s' hd2 (G3.woke o g e) (ht hb))
end
theorem seg_allStart {Y : Cx} {Aw : Around} {elt iter : Expr} {x : Str} {px pos : Pos} {scope : Scope} {a I t : Addr} {go : Obj} {xs : List V} {te : TE} {Q : Bool → Hp → Prop}
    (hA : Aw.handled = none) (hY : Y.A = Aw.over (.compLoop (.GeneratorExp elt [⟨.Name x px, iter, [], 0⟩] scope pos) 0 (.ref I) .none Y.env) [])
    (hN : Y.N = [(".0" : Str), x]) (S : OneN scope x) (hsc : Y.env.scope = scope) (hcl : Y.env.cells = []) (hex : I ∈ Y.ex) (haI : a ≠ I) (hIt : t ≠ I) (hpn : Y.pn = []) (hxe : Y.xe = fun _ _ => False)
    (hel : PE Y elt te) (hT : SqT Y.K Y.H_0 t xs) (hgo : ∀ v, go.data ≠ .cell v) {H : Hp} {s₀ s : Shared} (hG : GInv Y a I t go 0 H s) (hr : rdAll te xs H Q) :
    Seg (model Y.prog Y.w) Aw (gEnd Y Q) (gProt Y a I t go Q) xs.length s₀ (.compStart (.GeneratorExp elt [⟨.Name x px, iter, [], 0⟩] scope pos) 0 (.ref I) .none Y.env)
      ((model Y.prog Y.w).den (.compStart (.GeneratorExp elt [⟨.Name x px, iter, [], 0⟩] scope pos) 0 (.ref I) .none Y.env)) [] s := by
  have go1 : ∀ s₀, Seg (model Y.prog Y.w) Aw (gEnd Y Q) (gProt Y a I t go Q) xs.length s₀ (.compStart (.GeneratorExp elt [⟨.Name x px, iter, [], 0⟩] scope pos) 0 (.ref I) .none Y.env) (.pure (.again (.compLoop (.GeneratorExp elt [⟨.Name x px, iter, [], 0⟩] scope pos) 0 (.ref I) .none Y.env))) [] s := fun s₀ => by
    apply seg_again rfl
    exact seg_allLoop hA hY hN S hsc hcl hex haI hIt hpn hxe hel hT hgo xs 0 H s₀ s (List.drop_zero ..) hG hr
  obtain ⟨σ, io, l, z, hc, hdd, J⟩ := hG
  obtain ⟨its, rv, tp, _⟩ := J.tuple (Inv.sqt J hT)
  have pI := J.pin (I, io) (List.mem_append_right _ (by simp))
  have hh : (Aw.over (.compStart (.GeneratorExp elt [⟨.Name x px, iter, [], 0⟩] scope pos) 0 (.ref I) .none Y.env) []).handled = none := hA
  have W := Walks.tuple (prog := Y.prog) (w := Y.w) hh I t hIt its.toArray
  have again := go1 s₀
  show Seg _ Aw _ _ _ s₀ _ ((compStart _ 0 (.ref I) .none Y.env).onRaise (leaving Y.env)) [] s
  unfold compStart
  rw [Sem.onRaise_eq_wrap]
  apply seg_bind_wrap (m := ask)
  apply wpAny_askSetting
  split
  · exact again
  · apply seg_bind_wrap
    apply wpAny_rule
    apply seg_bind_wrap
    apply wpAny_standAt
    apply seg_bind_wrap
    exact W.self 0 s _ _ ⟨⟨io, pI.1, hc, hdd⟩, tp⟩ again
/-- the generator's own object -/
structure GenO (go : Obj) (g : Nat) : Prop where
  cls : go.cls = .type "generator"
  data : ∃ nm qn, go.data = .fields #[.int g 0, nm, qn]
  slots : go.slots = #[]
theorem GenO.at {go : Obj} {g : Nat} {h : Heap} {a : Addr} (G : GenO go g) (e : h.get? a = some go) : h.IsGen a g := by
  obtain ⟨nm, qn, d⟩ := G.data
  exact ⟨go, nm, qn, e, G.cls, d, G.slots⟩
theorem inv_gens {Y : Cx} {σ : L2.St} {H : Hp} {s s' : Shared} {pins : List (Addr × Obj)} (J : Inv Y pins σ H s) (o : s'.os = s.os) (g : AllBare s'.gens) (k : ∀ b o, s.heap.get? b = some o → s'.heap.get? b = some o) : Inv Y pins σ H s' :=
  J.call' (ch := []) o (Un.kept k) (J.hok.kept k) g fun b z => by simp at z
theorem all_loop {Y : Cx} {A : Around} {a I t : Addr} {go : Obj} {g : Nat} {R : Result → Shared → Prop} {Q : Bool → Hp → Prop} (hh : A.handled = none) (hd : A.depth < recursionLimit) (G : GenO go g)
    (fin : ∀ b σ H s, Inv Y [] σ H s → Q b H → R (.ok (.ret (.bool b))) s) :
    ∀ (n : Nat) (s : Shared), s.heap.get? a = some go → s.heap.NoLimit → (∃ gs, s.gens[g]? = some gs ∧ gs.Goes (model Y.prog Y.w) A.in1.in1 (gEnd Y Q) (gProt Y a I t go Q) n (.send .none) (s.setGen g .running)) →
      codeAny (model Y.prog Y.w) A (.builtin "all.loop" ⟨[.ref a], []⟩) R s := by
  intro n
  induction n with
  | zero =>
    intro s ha hl ⟨gs, hgs, hgo⟩
    apply codeAny_builtin F.entry_all_loop
    rw [Around.under_plainId F.plain_all_loop _]
    show wpAny _ A.in1 (pyNext (.ref a) >>= _) _ _ s
    apply wpAny_bind
    apply next_genG (A := A.in1) (F := gDone Y Q) (Er := fun _ _ => False) hh hl hd (G.at ha) hgs hgo
    · intro v s1 gs' hb hv
      obtain ⟨b, i, H, rfl, hG, hf, ht⟩ := hv
      cases b with
      | true =>
        obtain ⟨_, _, _, _, _, _, J⟩ := hG
        exact False.elim (ht rfl s1 rfl J.bare rfl)
      | false =>
        obtain ⟨σ, io, _, _, _, _, J⟩ := hG
        apply wpAny_bind
        apply wpAny_holding
        apply wpAny_truthy_bool
        apply wpAny_bind
        apply wpAny_letGo
        show wpAny _ _ (rule _ >>= _) _ _ _
        apply wpAny_bind
        apply wpAny_rule
        apply wpAny_pure
        exact fin false σ H _ (inv_gens (J.pins_of fun p hp => by simp at hp) rfl (allBare_setGen J.bare hb) fun _ _ e => e) (hf rfl)
    · intro s1 hp h' hk
      obtain ⟨σ, H, J, q⟩ := hp
      show wpAny _ _ (rule _ >>= _) _ _ _
      apply wpAny_bind
      apply wpAny_rule
      apply wpAny_pure
      exact fin true σ H _ (inv_gens J rfl (allBare_setGen J.bare rfl) hk) q
    · intro e s1 he
      exact he.elim
  | succ n ih =>
    intro s ha hl ⟨gs, hgs, hgo⟩
    have hgl : g < s.gens.size := (Array.getElem?_eq_some_iff.mp hgs).1
    apply codeAny_builtin F.entry_all_loop
    rw [Around.under_plainId F.plain_all_loop _]
    show wpAny _ A.in1 (pyNext (.ref a) >>= _) _ _ s
    apply wpAny_bind
    apply wpAny_gsz (n := g + 1) hgl
    apply next_genG (A := A.in1) (F := gDone Y Q) (Er := fun _ _ => False) hh hl hd (G.at ha) hgs hgo
    · intro v s1 gs' hb hv hsz
      obtain ⟨b, i, H, rfl, hG, hf, ht⟩ := hv
      have hG' := hG
      obtain ⟨σ, io, _, _, _, _, J⟩ := hG'
      have pa := J.pin (a, go) (List.mem_append_right _ (by simp))
      apply wpAny_bind
      apply wpAny_holding
      apply wpAny_truthy_bool
      apply wpAny_bind
      apply wpAny_letGo
      cases b with
      | false =>
        show wpAny _ _ (rule _ >>= _) _ _ _
        apply wpAny_bind
        apply wpAny_rule
        apply wpAny_pure
        exact fin false σ H _ (inv_gens (J.pins_of fun p hp => by simp at hp) rfl (allBare_setGen J.bare hb) fun _ _ e => e) (hf rfl)
      | true =>
        simp only [if_true]
        have hsz1 : g < s1.gens.size := by
          have q : (s1.setGen g gs').gens.size = s1.gens.size := setGen_size _ _ _
          have : g + 1 ≤ (s1.setGen g gs').gens.size := hsz
          omega
        refine wpAny_pure ⟨plainId_quiet F.plain_all_loop _, ih (s1.setGen g gs') pa.1 J.nolimit ⟨gs', setGen_at hsz1, ?_⟩⟩
        exact ht rfl _ rfl (allBare_setGen (s := s1.setGen g gs') (allBare_setGen J.bare hb) rfl) rfl
    · intro s1 hp h' hk hsz
      obtain ⟨σ, H, J, q⟩ := hp
      show wpAny _ _ (rule _ >>= _) _ _ _
      apply wpAny_bind
      apply wpAny_rule
      apply wpAny_pure
      exact fin true σ H _ (inv_gens J rfl (allBare_setGen J.bare rfl) hk) q
    · intro e s1 he
      exact he.elim
theorem clo_none {cells : List (Str × Addr)} : ∀ {ns : List (Str × NameKind)} {acc : List (Str × Addr)}, (∀ y ∈ ns, y.2 ≠ .free) → cloFrom cells ns acc = acc
  | [], _, _ => rfl
  | (n, k) :: r, acc, h => by
    have hk : k ≠ .free := h (n, k) (by simp)
    unfold cloFrom
    cases k <;> first | exact absurd rfl hk | exact clo_none fun y hy => h y (List.mem_cons_of_mem _ hy)
theorem envs_loop {elt iter : Expr} {x : Str} {px pos : Pos} {scope : Scope} {it acc : Value} {env : Env} {A : Around} {l : List Env} (h : A.frames = some l) : (A.over (.compLoop (.GeneratorExp elt [⟨.Name x px, iter, [], 0⟩] scope pos) 0 it acc env) []).frames = some (env :: l) := by
  show pushEnvs (Code.envs (.compLoop (.GeneratorExp elt [⟨.Name x px, iter, [], 0⟩] scope pos) 0 it acc env)) (pushEnvs [] A.frames) = _
  rw [h]
  rfl
theorem room_loop {k : Nat} {A : Around} {elt iter : Expr} {x : Str} {px pos : Pos} {scope : Scope} {it acc : Value} {env : Env} (r : Room (k + 1) A) : Room k (A.in1.in1.over (.compLoop (.GeneratorExp elt [⟨.Name x px, iter, [], 0⟩] scope pos) 0 it acc env) []) := by
  have h1 : (A.in1.in1.over (.compLoop (.GeneratorExp elt [⟨.Name x px, iter, [], 0⟩] scope pos) 0 it acc env) []).depth = A.in1.in1.depth + 1 := rfl
  have h2 : (A.in1.in1.over (.compLoop (.GeneratorExp elt [⟨.Name x px, iter, [], 0⟩] scope pos) 0 it acc env) []).units = A.in1.in1.units + 3 := rfl
  have h3 : A.in1.in1.depth = A.depth := rfl
  have h4 : A.in1.in1.units = A.units + 1 + 1 := rfl
  have h5 := r.dp
  have h6 := r.un
  exact ⟨r.hd, by rw [h1, h3]; omega, by rw [h2, h4]; omega⟩
section
variable {X : Cx} {pins : List (Addr × Obj)} {σ : L2.St} {H : Hp} {s : Shared}
/-- made, not begun; what its whole walk by all leaves -/
def ReadyA (X : Cx) (pins : List (Addr × Obj)) (σ : L2.St) (te : TE) (xs : List V) (H2 : Hp) (a : Addr) (s5 : Shared) : Prop :=
  ∃ (go : Obj) (g : Nat), GenO go g ∧ s5.heap.get? a = some go ∧ s5.heap.NoLimit ∧ g < s5.gens.size ∧ ∀ Q : Bool → Hp → Prop, rdAll te xs H2 Q → ∃ (Y : Cx) (I t : Addr),
    Y.prog = X.prog ∧ Y.w = X.w ∧ (∃ gs, s5.gens[g]? = some gs ∧ gs.Goes (model Y.prog Y.w) X.A.in1.in1 (gEnd Y Q) (gProt Y a I t go Q) xs.length (.send .none) (s5.setGen g .running)) ∧
    ∀ b σ' H' s', Inv Y [] σ' H' s' → Q b H' → ∃ H'', Inv X pins σ H'' s' ∧ Q b H''
theorem gen_tup {c P : Addr} {elt iter : Expr} {x : Str} {px gpos : Pos} {scope : Scope} {te ti : TE} {k : Nat} {Q' : Value → Shared → Prop} {R : List V → Hp → Prop}
    (hr : Room (k + 1) X.A) (TB : GxR.TabB X.base X.mg c P) (hcode : X.env.code = .ref c) (S : OneN scope x) (hi : PE X iter ti)
    (hel : ∀ (s : Shared) (H : Hp) (C : Addr) (code : Value) (I : Addr), Room k (X.A.in1.in1.over (.compLoop (.GeneratorExp elt [⟨.Name x px, iter, [], 0⟩] scope gpos) 0 (.ref I) .none (genEnv scope [] C code builtinsNs X.env)) []) →
      PE (gxOf X x s H (genEnv scope [] C code builtinsNs X.env) (X.A.in1.in1.over (.compLoop (.GeneratorExp elt [⟨.Name x px, iter, [], 0⟩] scope gpos) 0 (.ref I) .none (genEnv scope [] C code builtinsNs X.env)) []) I) elt te)
    (hs : ∀ v, genFold iter X.env v = pure v) (I0 : Inv X pins σ H s)
    (h : ti σ H fun v H1 => ∃ (t : Addr) (xs : List V), v = .ref t ∧ SqT X.K H1 t xs ∧ GxR.TabG H1 P ∧ ∀ H2, GxR.Tabbed P H1 H2 → R xs H2)
    (hQ : ∀ xs H2 a s5, R xs H2 → ReadyA X pins σ te xs H2 a s5 → Q' (.ref a) s5) :
    wpAny (model X.prog X.w) X.A (eval (.GeneratorExp elt [⟨.Name x px, iter, [], 0⟩] scope gpos) X.env) Q' X.xe s := by
  have hcl : closureFor scope X.env = pure [] := by
    rw [closure_ok fun y hy hf => absurd hf (S.free y hy), clo_none S.free]
  have hroom : X.A.depth < recursionLimit := by
    have := hr.dp
    omega
  apply wpAny_GeneratorExp_make S.co hcl S.cell S.dot S.kind hroom ?_ hs
  apply thn (hi.run pins s σ H _ I0 h)
  rintro xv s1 ⟨v, H1, I1, r1, t, xs, rfl, hT, ⟨tb, hP, ht⟩, q1⟩
  obtain rfl : xv = Value.ref t := r1
  obtain ⟨its, rv, tp, _⟩ := I1.tuple hT
  apply wpAny_pyIter_tuple tp
  generalize ho : ({ cls := .type "tuple_iterator", data := .fields #[.ref t, .int 0 0] } : Obj) = it0
  have old : ∀ b u, s1.heap.get? b = some u → (s1.heap.push it0).get? b = some u := fun b u e => Heap.get?_push_of_some _ e
  have here : (s1.heap.push it0).get? s1.heap.objs.size = some it0 := by
    subst ho
    exact Heap.get?_push_size _ rfl
  have tabS : s1.heap.get? P = some { cls := .none, data := .fields tb } := I1.hok P _ hP
  have Plt : P < s1.heap.objs.size := Heap.lt_size tabS
  have lim2 : (s1.heap.push it0).NoLimit := I1.nolimit.push it0
  refine ⟨lim2, ?_⟩
  refine gcode (s2 := { s1 with heap := s1.heap.push it0 }) hcode (TB.code.keeps fun b u e => old b u (I1.bk b u e)) (old _ _ tabS) ht fun code h3 n3 tb3 hx hsz hP3 hmore ht3 => ?_
  obtain ⟨bm, ob, e1, e2, e3, e4, e5, e6, e7, e8⟩ := TB.bm
  have keep3 : ∀ b u, b ≠ P → s1.heap.get? b = some u → h3.get? b = some u := fun b u hb e => hx b u hb (old b u e)
  have nP : s1.heap.objs.size ≠ P := Nat.ne_of_gt Plt
  have here3 : h3.get? s1.heap.objs.size = some it0 := hx _ _ nP here
  have sz3 : s1.heap.objs.size < h3.objs.size := Heap.lt_size here3
  have cP : cStatics ≠ P := fun e => by
    obtain ⟨_, hns, _⟩ := I1.nolimit
    obtain ⟨o', es, ep, ho', hd', _⟩ := hns
    rw [e, tabS] at ho'
    cases ho'
    cases hd'
  apply wpAny_builtinsFor (m := X.mg) (by rw [I1.ok.glob]; exact ((I1.mod.glob.keeps I1.bk).push it0).extBut hx TB.gP) e1 e2 (keep3 _ _ e4 (I1.bk _ _ e5)) e6 e7 e8
  intro h5 hns hsb
  obtain ⟨more, em⟩ := hmore
  subst em
  have I4 := GxR.inv_tab (more := more) (h' := h3) (g' := s1.gens) (d' := s1.drawn) (t' := n3) I1 hP keep3 hP3 I1.bare
  have H2t : (upd H1 P (.tbl (tb ++ more))) s1.heap.objs.size = none := by
    rw [upd_ne nP]
    exact I1.hok.fresh (Nat.le_refl _)
  have T2 : SqT X.K (upd H1 P (.tbl (tb ++ more))) t xs := by
    have ne : ∀ u, H1 t = some u → (∀ q, u ≠ .tbl q) → t ≠ P := fun u e q z => by
      rw [z, hP] at e
      exact q tb (Option.some.inj e).symm
    rcases hT with (z | ⟨o, z⟩) | z
    · exact .inl (.inl (by rw [upd_ne (ne _ z fun q y => by cases y)]; exact z))
    · exact .inl (.inr ⟨o, by rw [upd_ne (ne _ z fun q y => by cases y)]; exact z⟩)
    · exact .inr z
  generalize hgo : ({ cls := .type "generator", data := .fields #[.int s1.gens.size 0, .str "<genexpr>" (n3 + 1), .str (X.env.qual ++ "<genexpr>") (n3 + 1 + 1)] } : Obj) = go
  have GO : GenO go s1.gens.size := by
    subst hgo
    exact ⟨rfl, ⟨_, _, rfl⟩, rfl⟩
  have k5 : ∀ b u, h3.get? b = some u → h5.get? b = some u := fun b u e => hsb.extBut b u (Nat.ne_of_lt (Heap.lt_size e)) (Heap.get?_push_of_some _ e)
  have k6 : ∀ b u, h3.get? b = some u → (h5.push go).get? b = some u := fun b u e => Heap.get?_push_of_some _ (k5 b u e)
  have sz5 : h5.objs.size = h3.objs.size + 1 := by rw [hsb.1, Heap.size_push]
  have hga : (h5.push go).get? h5.objs.size = some go := by
    subst hgo
    exact Heap.get?_push_size _ rfl
  refine hQ xs (upd H1 P (.tbl (tb ++ more))) _ _ (q1 _ ⟨⟨_, upd_same, ht3⟩, fun b hb => upd_ne hb⟩) ⟨go, s1.gens.size, GO, hga, I4.nolimit.keeps k6, by show _ < (s1.gens.push _).size; rw [Array.size_push]; exact Nat.lt_succ_self _, fun Q hrd => ?_⟩
  have tlt : t < s1.heap.objs.size := by
    obtain ⟨o, e, _⟩ := _root_.id tp
    exact Heap.lt_size e
  have hIt : t ≠ s1.heap.objs.size := Nat.ne_of_lt tlt
  have haI : h5.objs.size ≠ s1.heap.objs.size := by
    rw [sz5]
    omega
  have nst : ∀ b, s1.heap.objs.size ≤ b → b ∉ frs X.stack := fun b hb hm => by
    rcases List.mem_cons.mp (I1.stkSub b hm) with z | z
    · rw [z] at hb
      exact absurd (Nat.lt_of_lt_of_le I1.lt hb) (Nat.lt_irrefl _)
    · exact I1.nofs hb z
  have itd : it0.cls = .type "tuple_iterator" ∧ it0.data = .fields #[.ref t, .int ((0 : Nat) : Int) 0] := by
    subst ho
    exact ⟨rfl, rfl⟩
  have god : ∀ v, go.data ≠ .cell v := fun v q => by
    obtain ⟨nm, qn, d⟩ := GO.data
    rw [d] at q
    cases q
  have KY : (gxOf X x { s1 with heap := h3, gens := s1.gens, drawn := s1.drawn, toks := n3 } (upd H1 P (.tbl (tb ++ more))) (genEnv scope [] h3.objs.size code builtinsNs X.env)
      (X.A.in1.in1.over (.compLoop (.GeneratorExp elt [⟨.Name x px, iter, [], 0⟩] scope gpos) 0 (.ref s1.heap.objs.size) .none (genEnv scope [] h3.objs.size code builtinsNs X.env)) []) s1.heap.objs.size).Ok := by
    refine ⟨I4.ok.mod, S.kind, I4.ok.glob, rfl, Nat.le_refl _, fun y z c e _ => (by cases e), fun y hy => ?_, fun y c _ e => (by cases e), fun _ => hr.hd, envs_loop I4.ok.frames, .inr ⟨rfl, rfl⟩, fun b hb => ?_, fun b o e => I4.bs b o e, Nat.le_trans I4.ok.bsz I4.sz, fun b o e hb => ?_, fun b hb => ?_, I4.stack, I4.stkFree⟩
    · have hy' : scope.names.lookup y = some .cell ∨ scope.names.lookup y = some .free := hy
      rcases hy' with z | z
      · exact absurd rfl (S.cell _ (PySem.mem_of_lookup z))
      · exact absurd rfl (S.free _ (PySem.mem_of_lookup z))
    · rw [List.mem_singleton.mp hb]
      exact ⟨Nat.ne_of_lt sz3, fun y c e => (by cases e)⟩
    · rw [List.mem_singleton.mp hb] at e
      exact absurd (Heap.lt_size (I1.bk _ _ e)) (Nat.lt_irrefl _)
    · rw [List.mem_singleton.mp hb]
      exact nst _ (Nat.le_refl _)
  refine ⟨gxOf X x { s1 with heap := h3, gens := s1.gens, drawn := s1.drawn, toks := n3 } (upd H1 P (.tbl (tb ++ more))) (genEnv scope [] h3.objs.size code builtinsNs X.env)
      (X.A.in1.in1.over (.compLoop (.GeneratorExp elt [⟨.Name x px, iter, [], 0⟩] scope gpos) 0 (.ref s1.heap.objs.size) .none (genEnv scope [] h3.objs.size code builtinsNs X.env)) []) s1.heap.objs.size, s1.heap.objs.size, t, rfl, rfl,
    ⟨_, Array.getElem?_push_size .., rfl, seg_allStart (Aw := X.A.in1.in1) hr.hd rfl rfl S rfl rfl (by show _ ∈ [_]; simp) haI hIt rfl rfl (hel _ _ _ _ _ (room_loop hr)) T2 god ⟨[none, none], it0, rfl, rfl, itd.1, itd.2, ?_⟩ hrd⟩, fun b σ' H' s' J q => ⟨H', I4.call' (ch := [s1.heap.objs.size]) J.os J.base J.hok J.bare fun b hb => ?_, q⟩⟩
  · refine ⟨KY, rfl, allBare_setGen (AllBare.push I1.bare rfl) rfl, Un.kept k6, ⟨_, hns.push _, fun i y v _ h2 _ => ?_⟩, fun y c e => (by cases e), I4.hok.fresh (Nat.le_refl _), fun y c e => (by cases e), fun p hp => ?_, I4.hok.kept k6, rfl⟩
    · match i, h2 with
      | 0, h2 => cases h2
      | 1, h2 => cases h2
      | n + 2, h2 => cases h2
    · rcases List.mem_cons.mp (show p ∈ [(h5.objs.size, go), (s1.heap.objs.size, it0)] from hp) with rfl | hp
      · exact ⟨hga, I4.hok.fresh (show h3.objs.size ≤ h5.objs.size by omega), (by show h5.objs.size ≠ h3.objs.size; omega), nst _ (show s1.heap.objs.size ≤ h5.objs.size by omega), god⟩
      · rw [List.mem_singleton] at hp
        subst hp
        exact ⟨k6 _ _ here3, H2t, Nat.ne_of_lt sz3, nst _ (Nat.le_refl _), fun v q => by rw [itd.2] at q; cases q⟩
  · rw [List.mem_singleton.mp hb]
    refine ⟨.inr I1.sz, Nat.ne_of_gt I1.lt, fun y c e z => ?_, fun p hp z => ?_⟩
    · obtain ⟨v, o, e2, _⟩ := I1.cell y c e
      have := Heap.lt_size e2
      rw [z] at this
      exact Nat.lt_irrefl _ this
    · have := Heap.lt_size (I1.pin p hp).1
      rw [z] at this
      exact Nat.lt_irrefl _ this
end
section
variable {X : Cx}
/-- all(e for x in t), t a tuple: the def's table may have grown when the first is asked -/
def tAllT (K : PySem.W.Frag) (P : Addr) (te ti : TE) : TE := fun σ H Q => ti σ H fun v H1 =>
  ∃ (t : Addr) (xs : List V), v = .ref t ∧ SqT K H1 t xs ∧ GxR.TabG H1 P ∧ ∀ H2, GxR.Tabbed P H1 H2 → rdAll te xs H2 fun b H' => Q (.bl b) H'
theorem pe_allT {c P : Addr} {elt iter : Expr} {x : Str} {px p pos gpos : Pos} {scope : Scope} {te ti : TE} {k : Nat}
    (hr : Room (k + 1) X.A) (hg : Gl X "all") (hm : X.mg "all" = none) (TB : GxR.TabB X.base X.mg c P) (hcode : X.env.code = .ref c) (S : OneN scope x) (hi : PE X iter ti)
    (hel : ∀ (s : Shared) (H : Hp) (C : Addr) (code : Value) (I : Addr), Room k (X.A.in1.in1.over (.compLoop (.GeneratorExp elt [⟨.Name x px, iter, [], 0⟩] scope gpos) 0 (.ref I) .none (genEnv scope [] C code builtinsNs X.env)) []) →
      PE (gxOf X x s H (genEnv scope [] C code builtinsNs X.env) (X.A.in1.in1.over (.compLoop (.GeneratorExp elt [⟨.Name x px, iter, [], 0⟩] scope gpos) 0 (.ref I) .none (genEnv scope [] C code builtinsNs X.env)) []) I) elt te)
    (hs : ∀ v, genFold iter X.env v = pure v) (hb : bootBuiltins "all" = some (.builtin "all") := by decide +kernel)
    (he : starEach [.GeneratorExp elt [⟨.Name x px, iter, [], 0⟩] scope gpos] X.env = (false, eval (.GeneratorExp elt [⟨.Name x px, iter, [], 0⟩] scope gpos) X.env) :: starEach [] X.env := by rfl) :
    PE X (.Call (.Name "all" p) [.GeneratorExp elt [⟨.Name x px, iter, [], 0⟩] scope gpos] [] pos) (tAllT X.K P te ti) := by
  constructor
  intro pins s σ H Q I want
  have hroom : X.A.depth < recursionLimit := by
    have := hr.dp
    omega
  apply wpAny_Call_Name_kw (ld_blt I hg hm hb ?_)
  apply PyProof.Rows.callWith_builtin1 ?_ he (by rfl)
  rw [he]
  show wpAny _ _ (spliced ((false, eval (.GeneratorExp elt [⟨.Name x px, iter, [], 0⟩] scope gpos) X.env) :: backTo pos (starEach [] X.env))) _ _ s
  apply Calls.spliced_cons (gen_tup (R := fun xs H2 => rdAll te xs H2 fun b H' => Q (.bl b) H') hr TB hcode S hi hel hs I want ?_)
  intro xs H2 a s5 k5 ready
  obtain ⟨go, g, GO, ha, lim, _, fin⟩ := ready
  obtain ⟨Y, I', t, eP, eW, hgo, back⟩ := fin _ k5
  apply Calls.spliced_nil
  apply call_function_tree F.kind_all F.plain_all F.entry_all (F.args_all1 _)
  unfold Builtin.«all»
  refine wpAny_bind (m := oneArg "all" _) (wpAny_pure ?_)
  refine wpAny_bind (wpAny_pyIter_gen (GO.at ha) ?_)
  refine wpAny_pure ⟨plainId_quiet F.plain_all_loop _, ?_⟩
  have key := all_loop (Y := Y) (A := X.A) (R := fun r s' => match r with | .ok (.ret v) => EP X pins σ Q v s' | .ok _ => False | .error e => X.xe e s') hr.hd hroom GO (fun b σ' H' s' J q => by
    obtain ⟨H'', J2, q2⟩ := back b σ' H' s' J q
    exact ⟨.bl b, H'', J2, rfl, q2⟩) xs.length s5 ha lim hgo
  rw [eP, eW] at key
  exact key
end
/-- for x in (a if c else b) -/
def iIf (tc : TT) (wa wb : TI) : TI := fun σ H R => tc σ H fun b H1 => if b = true then wa σ H1 R else wb σ H1 R
theorem pi_if {X : Cx} {tg c a b : Expr} {pos : Pos} {tc : TT} {wa wb : TI} (hc : PT X c tc) (ha : PI X tg a wa) (hb : PI X tg b wb) : PI X tg (.IfExp c a b pos) (iIf tc wa wb) := by
  constructor
  intro pins s σ H R I h
  apply wpAny_IfExp
  apply thn (hc.run pins s σ H _ I h)
  rintro d s1 ⟨H1, I1, q1⟩
  cases d with
  | true => exact ha.run pins s1 σ H1 R I1 q1
  | false => exact hb.run pins s1 σ H1 R I1 q1
end Jf
set_option Elab.async false
set_option linter.all false
set_option maxRecDepth 100000
set_option maxHeartbeats 4000000
/-! ### enumerate(t) of a tuple -/
namespace PySem
open AutoSeq1 (wpAny_loadPart')
section
variable {prog : Program} {w : World} {A : Around} {E : Value → Shared → Prop} {s : Shared} {e it t : Addr} {i : Nat} {items : Array Value} {x old : Value}
/-- the iterator within hands on an item -/
theorem jf_next {Q : Value → Shared → Prop} (a : s.heap.IsTupleIter it t i) (b : s.heap.IsTuple t items) (hx : items[i]? = some x) (k : ∀ h', h'.IsTupleIter it t (i + 1) → Heap.SameBut it s.heap h' → Q x { s with heap := h' }) :
    wpAny (model prog w) A (Builtin.SmallTypes.nextOf (.ref it)) Q E s := by
  obtain ⟨u, e1, e2, e3⟩ := id a
  obtain ⟨v, f1, _, n, f2⟩ := id b
  have S := F.slot_tuple_iterator_next
  have no : ¬ ((Value.ref t == Value.none) = true) := Bool.false_ne_true
  unfold Builtin.SmallTypes.nextOf
  refine wpAny_bind (wpAny_callSpecial?_slot (name := Str.ofString "__next__") a.typeIs S (wpAny_call_entry S a.typeIs F.entry_tuple_iterator_next ?_ (F.args_tuple_iterator_next_1 _)))
  refine wpAny_bind (m := field (.ref it) 0) (wpAny_field e1 e3 (x := .ref t) rfl ?_)
  dsimp only
  rw [if_neg no]
  refine wpAny_bind (m := field (.ref it) 1) (wpAny_field e1 e3 (x := .int i 0) rfl (wpAny_bind (m := seqItems? (.ref t)) (wpAny_seqItems f1 f2 ?_)))
  simp only [Int.toNat_natCast, hx]
  refine wpAny_bind (wpAny_setField e1 e3 (by simp) (wpAny_pure ⟨x, rfl, wpAny_pure (k _ ⟨_, Heap.get?_update_self _ e1 (Obj.isFreed_of_fields (Obj.data_mapFields e3 _)), (Obj.cls_mapFields ..).trans e2, ?_⟩ (Heap.SameBut.update ..))⟩))
  rw [Obj.data_mapFields e3]
  simp [rawInt]
/-- .. or has none -/
theorem jf_none {Q : Value → Shared → Prop} (hh : A.handled = none) (a : s.heap.IsTupleIter it t i) (b : s.heap.IsTuple t items) (hx : items[i]? = none)
    (k : ∀ h' y, Heap.ExtBut it s.heap h' → (∃ o, h'.get? y = some o ∧ o.cls = .type "StopIteration") → E (.ref y) { s with heap := h' }) : wpAny (model prog w) A (Builtin.SmallTypes.nextOf (.ref it)) Q E s := by
  obtain ⟨u, e1, e2, e3⟩ := id a
  obtain ⟨v, f1, _, n, f2⟩ := id b
  have S := F.slot_tuple_iterator_next
  have no : ¬ ((Value.ref t == Value.none) = true) := Bool.false_ne_true
  unfold Builtin.SmallTypes.nextOf
  refine wpAny_bind (wpAny_callSpecial?_slot (name := Str.ofString "__next__") a.typeIs S (wpAny_call_entry S a.typeIs F.entry_tuple_iterator_next ?_ (F.args_tuple_iterator_next_1 _)))
  refine wpAny_bind (m := field (.ref it) 0) (wpAny_field e1 e3 (x := .ref t) rfl ?_)
  dsimp only
  rw [if_neg no]
  refine wpAny_bind (m := field (.ref it) 1) (wpAny_field e1 e3 (x := .int i 0) rfl (wpAny_bind (m := seqItems? (.ref t)) (wpAny_seqItems f1 f2 ?_)))
  simp only [Int.toNat_natCast, hx]
  refine wpAny_bind (wpAny_rule (wpAny_bind (wpAny_setField e1 e3 (by simp) (wpAny_bind (m := newExc (.type "StopIteration") []) ?_))))
  simp only [newExc, newTuple]
  refine wpAny_bind (wpAny_newObj_type (wpAny_bind (m := firstArgMember _ _) (wpAny_of_eq (a := Value.none) (by first | rfl | (simp only [firstArgMember]; rfl)) (wpAny_newObj_type ?_ (by size_fits)))) (by size_fits))
  simp only [raiseNew]
  refine wpAny_bind (wpAny_handled ?_)
  first | rw [show A.in1.handled = none from hh] | rw [hh]
  exact wpAny_bind (wpAny_pure (wpAny_throw (k _ _ (((Heap.SameBut.update ..).extBut.push _).push _) ⟨_, Heap.get?_push_size _ rfl, rfl⟩)))
/-- enumerate's turn, whatever stands within: what it needs of the turn within is told by hn -/
theorem jf_enum {P : Heap → Prop} {Q : Value → Shared → Prop} (he : IsEnum s.heap e it i old) (hne : e ≠ it)
    (hn : ∀ {B : Around} {R : Value → Shared → Prop} {Ex : Value → Shared → Prop}, (∀ h', P h' → Heap.SameBut it s.heap h' → R x { s with heap := h' }) → wpAny (model prog w) B (Builtin.SmallTypes.nextOf (.ref it)) R Ex s)
    (hP : ∀ h h', P h → (∀ b o, b ≠ e → h.get? b = some o → h'.get? b = some o) → P h')
    (k : ∀ h', IsEnumOut h' e it ((i : Int) + 1) x s.heap.objs.size → P h' → h'.get? s.heap.objs.size = some { cls := .type "tuple", data := .seq #[.int i s.toks, x] } → h'.objs.size = s.heap.objs.size + 1 →
      (∀ b o, b ≠ e → b ≠ it → s.heap.get? b = some o → h'.get? b = some o) → Q (.ref s.heap.objs.size) { s with heap := h', toks := s.toks + 1 }) :
    wpAny (model prog w) A (Builtin.«enumerate.__next__» ⟨[.ref e], []⟩) (fun f s' => ∃ v, f = .done (.ret v) ∧ Q v s') E s := by
  obtain ⟨hp, g, d, tk, os⟩ := s
  have lt : e < hp.objs.size := Heap.lt_size he
  refine wpAny_bind (m := field (.ref e) 2) (wpAny_field he rfl (x := .ref it) rfl (wpAny_bind (hn fun g1 p1 (b1 : Heap.SameBut it hp g1) => ?_)))
  have q1 : IsEnum g1 e it i old := (b1.2 e hne).trans he
  refine wpAny_bind (m := field (.ref e) 3) (wpAny_field q1 rfl (x := rawInt i) rfl (wpAny_bind (m := field (.ref e) 4) (wpAny_field q1 rfl (x := .none) rfl (wpAny_bind (m := mkInt i) (wpAny_mkInt ?_)))))
  refine wpAny_bind (m := setField (.ref e) 3 (rawInt ((i : Int) + 1))) (wpAny_setField_rec q1 (by simp) fun g2 (q2 : IsEnum g2 e it ((i : Int) + 1) old) (b2 : Heap.SameBut e g1 g2) => ?_)
  refine wpAny_bind (m := setField (.ref e) 4 .none) (wpAny_setField_rec q2 (by simp) fun g3 (q3 : IsEnum g3 e it ((i : Int) + 1) old) (b3 : Heap.SameBut e g2 g3) => ?_)
  refine wpAny_bind (m := newTuple [.int i tk, x]) (wpAny_newTuple ?_)
  have z3 : g3.objs.size = hp.objs.size := by rw [b3.1, b2.1, b1.1]
  have b13 : ∀ b o, b ≠ e → g1.get? b = some o → g3.get? b = some o := fun b o n y => b3.extBut b o n (b2.extBut b o n y)
  generalize hg : g3.push { cls := .type "tuple", data := .seq #[.int i tk, x] } = g4
  have old4 : ∀ b o, g3.get? b = some o → g4.get? b = some o := fun b o y => hg ▸ Heap.get?_push_of_some _ y
  have tup4 : g4.get? hp.objs.size = some { cls := .type "tuple", data := .seq #[.int i tk, x] } := by
    rw [← hg, ← z3]
    exact Heap.get?_push_size _ rfl
  have z4 : g4.objs.size = hp.objs.size + 1 := by rw [← hg, Heap.size_push, z3]
  have q4 : IsEnum g4 e it ((i : Int) + 1) old := old4 _ _ q3
  rw [z3]
  refine wpAny_bind (m := Builtin.SmallTypes.ownedTupleIsFree (.ref e)) ?_
  unfold Builtin.SmallTypes.ownedTupleIsFree
  refine wpAny_bind (wpAny_field q4 rfl (x := .none) rfl (wpAny_pure ?_))
  simp only [if_true]
  refine wpAny_bind (wpAny_rule (wpAny_bind (wpAny_field q4 rfl (x := old) rfl (wpAny_bind (wpAny_setField_rec q4 (by simp) fun g5 (q5 : IsEnum g5 e it ((i : Int) + 1) x) (b5 : Heap.SameBut e g4 g5) => ?_)))))
  refine wpAny_bind (m := Builtin.SmallTypes.ownedTupleHandOut (.ref e) (.ref hp.objs.size)) ?_
  unfold Builtin.SmallTypes.ownedTupleHandOut
  refine wpAny_bind (wpAny_setField_rec q5 (by simp) fun g6 (q6 : IsEnumOut g6 e it ((i : Int) + 1) x hp.objs.size) (b6 : Heap.SameBut e g5 g6) => ?_)
  refine wpAny_setField_rec q6 (by simp) fun g7 (q7 : IsEnumOut g7 e it ((i : Int) + 1) x hp.objs.size) (b7 : Heap.SameBut e g6 g7) => ?_
  have b47 : ∀ b o, b ≠ e → g4.get? b = some o → g7.get? b = some o := fun b o n y => b7.extBut b o n (b6.extBut b o n (b5.extBut b o n y))
  refine wpAny_bind (wpAny_letGo (wpAny_pure ⟨_, rfl, k g7 q7 (hP g1 g7 p1 fun b o n y => b47 b o n (old4 b o (b13 b o n y))) (b47 _ _ (Nat.ne_of_gt lt) tup4) ?_ fun b o n m y => b47 b o n (old4 b o (b13 b o n (b1.extBut b o m y)))⟩))
  rw [b7.1, b6.1, b5.1, z4]
theorem jf_enumT {Q : Option Value → Shared → Prop} (he : IsEnum s.heap e it i old) (a : s.heap.IsTupleIter it t i) (b : s.heap.IsTuple t items) (hx : items[i]? = some x) (hne : e ≠ it)
    (k : ∀ h', IsEnumOut h' e it ((i : Int) + 1) x s.heap.objs.size → h'.IsTupleIter it t (i + 1) → h'.get? s.heap.objs.size = some { cls := .type "tuple", data := .seq #[.int i s.toks, x] } → h'.objs.size = s.heap.objs.size + 1 →
      (∀ b o, b ≠ e → b ≠ it → s.heap.get? b = some o → h'.get? b = some o) → Q (some (.ref s.heap.objs.size)) { s with heap := h', toks := s.toks + 1 }) : wpAny (model prog w) A (pyNext (.ref e)) Q E s := by
  have T : s.TypeIs (.ref e) "enumerate" := ⟨_, he, rfl⟩
  unfold pyNext
  refine wpAny_bind (wpAny_attempt (wpAny_callSpecial?_slot (name := Str.ofString "__next__") T F.slot_enumerate_next (wpAny_call_entry F.slot_enumerate_next T F.entry_enumerate_next
    (jf_enum (P := fun h => h.IsTupleIter it t (i + 1)) he hne (fun q => jf_next a b hx q) (fun h h' p y => ?_) fun h' c1 c2 c3 c4 c5 => wpAny_pure (k h' c1 c2 c3 c4 c5)) (F.args_enumerate_next_1 _))))
  obtain ⟨o, h1, h2⟩ := p
  exact ⟨o, y it o hne.symm h1, h2⟩
theorem jf_enumE {Q : Option Value → Shared → Prop} (hh : A.handled = none) (he : IsEnum s.heap e it i old) (a : s.heap.IsTupleIter it t i) (b : s.heap.IsTuple t items) (hx : items[i]? = none) (k : ∀ h', Heap.ExtBut it s.heap h' → Q none { s with heap := h' }) :
    wpAny (model prog w) A (pyNext (.ref e)) Q E s := by
  have T : s.TypeIs (.ref e) "enumerate" := ⟨_, he, rfl⟩
  unfold pyNext
  refine wpAny_bind (wpAny_attempt (wpAny_callSpecial?_slot (name := Str.ofString "__next__") T F.slot_enumerate_next (wpAny_call_entry F.slot_enumerate_next T F.entry_enumerate_next
    (wpAny_bind (m := field (.ref e) 2) (wpAny_field he rfl (x := .ref it) rfl (wpAny_bind (jf_none hh a b hx fun h' y g ⟨o, g1, g2⟩ => ?_)))) (F.args_enumerate_next_1 _))))
  exact wpAny_bind (wpAny_isInstance (T := "StopIteration") (b := true) ⟨o, g1, g2⟩ isSubtype_stop (wpAny_pure (k _ g)))
end
/-- enumerate(t) -/
theorem jf_newT (t : Addr) (o : Obj) (items : Array Value) (n : Nat) (hc : o.cls = .type "tuple") (hd : o.data = .seq items n) :
    Meets (Builtin.«enumerate.__new__» ⟨[.type "enumerate", .ref t], []⟩) (fun _ R s => s.heap.get? t = some o ∧
      R (.ok (.ret (.ref (s.heap.push { cls := .type "tuple_iterator", data := .fields #[.ref t, .int 0 0] }).objs.size)))
        { s with heap := (s.heap.push { cls := .type "tuple_iterator", data := .fields #[.ref t, .int 0 0] }).push { cls := .type "enumerate", data := .fields #[.none, .bool false, .ref s.heap.objs.size, rawInt 0, .none, .none] } }) :=
  .of_wp fun prog w A R s h => by
    obtain ⟨hp, g, dr, tk, os⟩ := s
    obtain ⟨ht, h⟩ := h
    have sub := sub_enumerate
    have hT : Heap.IsTuple (Shared.heap ⟨hp, g, dr, tk, os⟩) t items := ⟨_, ht, hc, n, hd⟩
    wp_walk using wpAny_loadPart' ht
    refine wpAny_stack_any fun st => wpAny_pure ?_
    split
    · rename_i c _ _ _ _ _
      cases (c == Value.type "enumerate") <;>
      · wp_walk using wpAny_loadPart' ht, wpAny_pyIter_tuple hT
        exact ⟨_, rfl, h⟩
    · wp_walk using wpAny_loadPart' ht, wpAny_pyIter_tuple hT
      exact ⟨_, rfl, h⟩
theorem jf_callT {prog : Program} {w : World} {A : Around} {E : Value → Shared → Prop} {s : Shared} {t : Addr} {items : Array Value} {Q : Value → Shared → Prop} (hT : s.heap.IsTuple t items)
    (h : ∀ h', IsEnum h' (s.heap.objs.size + 1) s.heap.objs.size 0 .none → h'.IsTupleIter s.heap.objs.size t 0 → h'.objs.size = s.heap.objs.size + 2 → (∀ b o, s.heap.get? b = some o → h'.get? b = some o) → Q (.ref (s.heap.objs.size + 1)) { s with heap := h' }) :
    wpAny (model prog w) A (call (.type "enumerate") [.ref t]) Q E s := by
  obtain ⟨o, ho, hc, n, hd⟩ := hT
  refine callType_new F.called_enumerate (by decide) (F.typeCall_enumerate_1 _) (F.newCall_enumerate_1 _) (fun obj => F.args_object_init_2 obj _) F.entry_enumerate_new (jf_newT t o items n hc hd) ⟨ho, ?_⟩
  have z : (s.heap.push { cls := .type "tuple_iterator", data := .fields #[.ref t, .int 0 0] }).objs.size = s.heap.objs.size + 1 := Heap.size_push ..
  show _ ∧ _
  rw [z]
  have he := Heap.get?_push_size (s.heap.push { cls := .type "tuple_iterator", data := .fields #[.ref t, .int 0 0] }) (o := { cls := .type "enumerate", data := .fields #[.none, .bool false, .ref s.heap.objs.size, rawInt 0, .none, .none] }) rfl
  rw [z] at he
  exact ⟨⟨_, he, rfl⟩, h _ he ⟨_, Heap.get?_push_of_some _ (Heap.get?_push_size _ rfl), rfl, rfl⟩ (by rw [Heap.size_push, z]) fun b o y => Heap.get?_push_of_some _ (Heap.get?_push_of_some _ y)⟩
end PySem
namespace Jf
open PySem PySem.Spec PyProof.Rows L2 Evl
/-- the tuple at a, each item in a new pair with its number -/
def IteT (K : PySem.W.Frag) (a : Addr) : It :=
  ⟨fun i H => ∃ (xs : List V) (x : V), SqT K H a xs ∧ xs[i]? = some x, fun i H v H' => ∃ T x, v = .ref T ∧ H T = none ∧ H' = upd H T (.tup [.int (i : Nat), x]) ∧ ∀ xs, SqT K H a xs → xs[i]? = some x, fun i H => ∃ xs : List V, SqT K H a xs ∧ xs.length ≤ i⟩
theorem turn_enumT {P : Program} {w : World} {K : PySem.W.Frag} {elts : List Expr} {kk : Nat} {tpos : Pos} (a e it : Addr) :
    Turn P w K (.Tuple elts kk tpos) (IteT K a) [e, it] e (fun i h => (∃ old, IsEnum h e it ((i : Nat) : Int) old) ∧ h.IsTupleIter it a i ∧ e ≠ it) where
  mem := by simp
  obj := fun i h st b hb => by
    obtain ⟨⟨old, he⟩, ⟨o, ho, _, hd⟩, _⟩ := st
    rcases List.mem_cons.mp hb with rfl | hb
    · exact ⟨_, he, fun v q => nomatch q⟩
    · rw [List.mem_singleton.mp hb]
      exact ⟨o, ho, fun v q => by rw [hd] at q; cases q⟩
  keep := fun i h h' st k => by
    obtain ⟨⟨old, he⟩, ⟨o, ho, hr⟩, ne⟩ := st
    exact ⟨⟨old, k e (by simp) _ he⟩, ⟨o, k it (by simp) o ho, hr⟩, ne⟩
  item := by
    intro X hP hw hK hc i pins s σ H E I hf st hg
    subst hP hw hK
    obtain ⟨⟨old, he⟩, hit, ne⟩ := st
    obtain ⟨xs, x, hq, hx⟩ := hg
    obtain ⟨its, rv, tp, _⟩ := I.tuple hq
    obtain ⟨u, hu, ru⟩ := rv.get hx
    have le : e < s.heap.objs.size := Heap.lt_size he
    have li : it < s.heap.objs.size := by
      obtain ⟨_, q, _⟩ := hit
      exact Heap.lt_size q
    refine jf_enumT he hit tp (x := u) (by simpa using hu) ne fun h1 c1 c2 c3 c4 c5 => ⟨_, rfl, wpAny_letOwnedTupleGo_enum (s := { s with heap := h1, toks := s.toks + 1 }) c1 fun h2 d1 d2 => ?_⟩
    have at2 : h2.get? s.heap.objs.size = some { cls := .type "tuple", data := .seq #[.int i s.toks, u] } := (d2.2 _ (Nat.ne_of_gt le)).trans c3
    have I2 : Inv X pins σ (upd H s.heap.objs.size (.tup [.int (i : Nat), x])) { s with heap := h2, toks := s.toks + 1 } := by
      refine I.turnedNew (ch := [e, it]) (fun b o hb q => ?_) hf (Nat.le_refl _) ⟨by show 2 ≤ sizeLine; decide, [.int i s.toks, u], .cons ⟨_, rfl⟩ (.cons ru .nil), ⟨_, at2, rfl, _, rfl⟩⟩
      simp only [List.mem_cons, List.not_mem_nil, or_false, not_or] at hb
      exact (d2.2 b hb.1).trans (c5 b o hb.1 hb.2 q)
    refine ⟨.ref s.heap.objs.size, _, I2, rfl, ⟨_, x, rfl, I.hok.fresh (Nat.le_refl _), rfl, fun ys hy => by rw [I.tuple_inj hy hq]; exact hx⟩, ⟨⟨u, ?_⟩, ?_, ne⟩, fun b hb => ?_⟩
    · rw [show ((i + 1 : Nat) : Int) = (i : Int) + 1 by omega]
      exact d1
    · obtain ⟨o, g1, g2⟩ := c2
      exact ⟨o, (d2.2 it ne.symm).trans g1, g2⟩
    · have lb : b < s.heap.objs.size := by
        rcases List.mem_cons.mp hb with rfl | hb
        · exact le
        · rw [List.mem_singleton.mp hb]
          exact li
      rw [upd_ne (Nat.ne_of_lt lb)]
      exact (hf b hb).1
  done := by
    intro X hP hw hK hc i pins s σ H E I hf st hg
    subst hP hw hK
    obtain ⟨⟨old, he⟩, hit, _⟩ := st
    obtain ⟨xs, hq, hx⟩ := hg
    obtain ⟨its, rv, tp, _⟩ := I.tuple hq
    obtain ⟨f0, f1, f2, f3, f4, f5⟩ := hf it (by simp)
    have := rv.length
    exact jf_enumE (I.ok.hd hc) he hit tp (by simp; omega) fun h' g => ⟨rfl, I.turned (t' := s.toks) (fun b o hb q => g b o hb q) f0 f1 f3 f4 f5⟩
  self := fun A i s Q E st h => by
    obtain ⟨⟨_, he⟩, _⟩ := st
    exact wpAny_pyIter_enum he h
def iEnumT (K : PySem.W.Frag) (ta : TA) : TI := fun σ H R => ta σ H fun vs H1 => ∃ a xs, vs = [.ref a] ∧ SqT K H1 a xs ∧ R (IteT K a) H1
theorem pi_enumT {X : Cx} {e : Expr} {ta : TA} {p pos tpos : Pos} {elts : List Expr} {kk : Nat} (hg : Gl X "enumerate") (hm : X.mg "enumerate" = none) (ha : PA X [e] ta) (hs : starEach [e] X.env = [(false, eval e X.env)] := by rfl) :
    PI X (.Tuple elts kk tpos) (.Call (.Name "enumerate" p) [e] [] pos) (iEnumT X.K ta) := by
  refine ⟨fun pins s σ H R I h => ?_⟩
  refine Call_ (ld_blt I hg hm boot_enumerate (PyProof.Rows.callWith_type1 (thn (ha.run pos pins s σ H _ I h) fun us s1 ⟨vs, H1, I1, r1, a, xs, ex, hq, q⟩ => ?_) hs rfl))
  subst ex
  obtain ⟨u, rfl, ru⟩ := vals1 r1
  cases ru
  obtain ⟨its, _, tp, _⟩ := I1.tuple hq
  refine jf_callT tp fun h' c1 c2 c3 c4 => wpAny_pyIter_enum c1 ⟨s1.heap.objs.size + 1, [s1.heap.objs.size + 1, s1.heap.objs.size], _, _, H1, rfl, I1.kept (t' := s1.toks) c4, turn_enumT a (s1.heap.objs.size + 1) s1.heap.objs.size, ⟨⟨.none, c1⟩, c2, Nat.succ_ne_self _⟩, fun b hb => ?_, q⟩
  have hle : s1.heap.objs.size ≤ b := by
    rcases List.mem_cons.mp hb with rfl | hb
    · exact Nat.le_succ _
    · rw [List.mem_singleton.mp hb]
      exact Nat.le_refl _
  exact I1.fpOk hle (I1.hok.fresh hle)
end Jf
set_option Elab.async false
set_option linter.all false
set_option maxRecDepth 100000
set_option maxHeartbeats 4000000
namespace Jf
open PySem PySem.Spec PyProof.Rows L2 Evl GxR GenW
/-! ### all(e for .. in an iterable of any kind that the layer walks), e of any kind that it reads -/
/-- the inner scope: its names, nothing captured -/
structure ManyN (scope : Scope) (xs : List Str) : Prop where
  kind : scope.kind = .function
  co : scope.isCoroutine = false
  cell : ∀ y ∈ scope.names, y.2 ≠ .cell
  dot : scope.names.lookup (".0" : Str) = some NameKind.local
  free : ∀ y ∈ scope.names, y.2 ≠ .free
/-- the inner context: the callers' frames behind it, the walked objects free to turn -/
def gyOf (X : Cx) (xs : List Str) (s : Shared) (H : Hp) (cenv : Env) (B : Around) (fp : List Addr) : Cx where
  prog := X.prog
  w := X.w
  K := X.K
  mg := X.mg
  base := X.base
  A := B
  N := ".0" :: xs
  s_0 := s
  H_0 := H
  env := cenv
  outer := X.stack
  stack := cenv :: X.stack
  ex := fp
  fn := fun _ => true
  calm := true
  pn := []
  xe := fun _ _ => False
/-- the reading: from the left, till one says no -/
def rdAllI (g : TG) (te : TE) (J : It) (L : Nat) : Nat → Nat → Hp → (Bool → Hp → Prop) → Prop
  | 0, i, H, Q => J.stop i H ∧ Q true H
  | n + 1, i, H, Q => J.go i H ∧ ∀ x H1, J.yld i H x H1 → ∀ σ : L2.St, σ.length = L → σ[0]? = some none → g x σ H1 fun σ2 H2 => σ2.length = L ∧ σ2[0]? = some none ∧ te σ2 H2 fun r H3 => ∃ b, r = .bl b ∧ (b = true → rdAllI g te J L n (i + 1) H3 Q) ∧ (b = false → Q false H3)
/-- where the generator stands -/
def GInv2 (Y : Cx) (a : Addr) (go : Obj) (fp : List Addr) (tn : Nat → Heap → Prop) (L i : Nat) (H : Hp) (s : Shared) : Prop :=
  ∃ (σ : L2.St) (ps : List (Addr × Obj)), σ.length = L ∧ σ[0]? = some none ∧ ps.map (·.1) = fp ∧ tn i s.heap ∧ Inv Y ((a, go) :: ps) σ H s
def gProt2 (Y : Cx) (a : Addr) (go : Obj) (fp : List Addr) (tn : Nat → Heap → Prop) (L : Nat) (Q : Bool → Hp → Prop) : Protocol := fun _ _ v s kap =>
  ∃ b i H, v = .bool b ∧ GInv2 Y a go fp tn L i H s ∧ (b = false → Q false H) ∧ (b = true → ∀ s', s'.os = s.os → AllBare s'.gens → s'.heap = s.heap → kap (.send .none) s')
section
variable {Y : Cx} {a it : Addr} {go : Obj} {fp : List Addr} {tn : Nat → Heap → Prop} {L i : Nat} {H : Hp} {s s' : Shared}
theorem GInv2.woke (h : GInv2 Y a go fp tn L i H s) (o : s'.os = s.os) (g : AllBare s'.gens) (e : s'.heap = s.heap) : GInv2 Y a go fp tn L i H s' := by
  obtain ⟨σ, ps, l, z, c, d, J⟩ := h
  refine ⟨σ, ps, l, z, c, by rw [e]; exact d, J.call' (ch := []) o ?_ ?_ g fun b z => by simp at z⟩
  · rw [e]
    exact Un.kept fun _ _ q => q
  · rw [e]
    exact J.hok
theorem objs_of {h : Heap} : ∀ {fp : List Addr}, (∀ b ∈ fp, ∃ o, h.get? b = some o ∧ ∀ v, o.data ≠ .cell v) → ∃ ps : List (Addr × Obj), ps.map (·.1) = fp ∧ ∀ p ∈ ps, h.get? p.1 = some p.2 ∧ ∀ v, p.2.data ≠ .cell v
  | [], _ => ⟨[], rfl, fun _ z => nomatch z⟩
  | b :: fp, q => by
    obtain ⟨o, h1, h2⟩ := q b List.mem_cons_self
    obtain ⟨ps, h3, h4⟩ := objs_of fun c hc => q c (List.mem_cons_of_mem _ hc)
    refine ⟨(b, o) :: ps, by rw [List.map_cons, h3], fun p hp => ?_⟩
    rcases List.mem_cons.mp hp with rfl | hp
    · exact ⟨h1, h2⟩
    · exact h4 p hp
end
section
variable {Y : Cx} {Aw : Around} {elt iter tg : Expr} {pos : Pos} {scope : Scope} {a it : Addr} {go : Obj} {fp : List Addr} {tn : Nat → Heap → Prop} {J : It} {L : Nat} {te : TE} {g : TG} {Q : Bool → Hp → Prop}
theorem seg_itLoop (hA : Aw.handled = none) (hY : Y.A = Aw.over (.compLoop (.GeneratorExp elt [⟨tg, iter, [], 0⟩] scope pos) 0 (.ref it) .none Y.env) []) (hco : Y.env.scope.isCoroutine = false) (hcl : Y.env.cells = []) (hex : ∀ b ∈ fp, b ∈ Y.ex) (ha : a ∉ fp) (hpn : Y.pn = [])
    (hcalm : Y.calm = true) (hxe : Y.xe = fun _ _ => False) (T : Turn Y.prog Y.w Y.K tg J fp it tn) (hg : PG Y tg g) (hel : PE Y elt te) :
    ∀ (n i : Nat) (H : Hp) (s₀ s : Shared), GInv2 Y a go fp tn L i H s → rdAllI g te J L n i H Q →
      Seg (model Y.prog Y.w) Aw (gEnd Y Q) (gProt2 Y a go fp tn L Q) n s₀ (.compLoop (.GeneratorExp elt [⟨tg, iter, [], 0⟩] scope pos) 0 (.ref it) .none Y.env)
        ((model Y.prog Y.w).den (.compLoop (.GeneratorExp elt [⟨tg, iter, [], 0⟩] scope pos) 0 (.ref it) .none Y.env)) [] s := by
  have free : ∀ {σ : L2.St} {ps : List (Addr × Obj)} {i : Nat} {H : Hp} {s : Shared}, ps.map (·.1) = fp → Inv Y ((a, go) :: ps) σ H s → Inv Y [(a, go)] σ H s ∧ ∀ b ∈ fp, FpOk Y [(a, go)] H b := fun {σ ps i H s} hm I => by
    refine ⟨I.pins_of fun p hp => I.pin p (List.mem_append_right _ (by
      rw [List.mem_singleton] at hp
      rw [hp]
      exact List.mem_cons_self)), fun b hb => ?_⟩
    rw [← hm] at hb
    obtain ⟨p, hp, rfl⟩ := List.mem_map.mp hb
    have q := I.pin p (List.mem_append_right _ (List.mem_cons_of_mem _ hp))
    refine ⟨q.2.1, q.2.2.1, q.2.2.2.1, .inl (hex _ (hm ▸ List.mem_map.mpr ⟨p, hp, rfl⟩)), (fun x c e => by rw [hcl] at e; cases e), fun r hr z => ?_⟩
    rw [hpn, List.nil_append, List.mem_singleton] at hr
    subst hr
    exact ha (by rw [← hm]; exact List.mem_map.mpr ⟨p, hp, z.symm⟩)
  intro n
  induction n with
  | zero =>
    intro i H s₀ s hG hr
    obtain ⟨σ, ps, l, z, hm, ht, I⟩ := hG
    obtain ⟨I1, hf⟩ := free (i := i) hm I
    show Seg _ Aw _ _ _ s₀ _ ((compTurn (.GeneratorExp elt [⟨tg, iter, [], 0⟩] scope pos) 0 (.ref it) .none Y.env).onRaise (leaving Y.env)) [] s
    rw [compTurn_gen, Sem.onRaise_eq_wrap]
    refine seg_bind_wrap (wpAny_standAt ?_)
    refine seg_bind_wrap ?_
    rw [← hY]
    refine wpAny_mono (T.done Y rfl rfl rfl hcalm i [(a, go)] s σ H (fun _ _ => False) I1 hf ht hr.1) ?_ fun _ _ x => x.elim
    rintro r s1 ⟨rfl, I2⟩
    exact seg_end (.ok .next) (.inl ⟨.inr rfl, σ, H, I2.pins_of fun p hp => by simp at hp, hr.2⟩)
  | succ n ih =>
    intro i H s₀ s hG hr
    obtain ⟨σ, ps, l, z, hm, ht, I⟩ := hG
    obtain ⟨I1, hf⟩ := free (i := i) hm I
    have pa := I1.pin (a, go) (List.mem_append_right _ List.mem_cons_self)
    show Seg _ Aw _ _ _ s₀ _ ((compTurn (.GeneratorExp elt [⟨tg, iter, [], 0⟩] scope pos) 0 (.ref it) .none Y.env).onRaise (leaving Y.env)) [] s
    rw [compTurn_gen, Sem.onRaise_eq_wrap]
    refine seg_bind_wrap (wpAny_standAt ?_)
    refine seg_bind_wrap ?_
    rw [← hY]
    refine wpAny_mono (T.item Y rfl rfl rfl hcalm i [(a, go)] s σ H (fun _ _ => False) I1 hf ht hr.1) ?_ fun _ _ x => x.elim
    rintro r s1 ⟨u, rfl, w1⟩
    refine seg_bind_wrap ?_
    rw [← hY]
    refine wpAny_mono w1 ?_ fun _ _ x => x.elim
    rintro _ s2 ⟨x, H1, I2, ru, hy, ht2, hnone⟩
    obtain ⟨ps2, hm2, ho2⟩ := objs_of (T.obj (i + 1) s2.heap ht2)
    have I3 : Inv Y ((a, go) :: ps2) σ H1 s2 := I2.pins_of fun p hp => by
      rcases List.mem_cons.mp hp with rfl | hp
      · exact I2.pin _ (List.mem_append_right _ List.mem_cons_self)
      · have hb : p.1 ∈ fp := hm2 ▸ List.mem_map.mpr ⟨p, hp, rfl⟩
        obtain ⟨_, f1, f2, _⟩ := hf _ hb
        exact ⟨(ho2 p hp).1, hnone _ hb, f1, f2, (ho2 p hp).2⟩
    refine seg_bind_wrap ?_
    rw [← hY]
    refine wpAny_mono (hg.run _ _ σ H1 x u _ I3 ru (hr.2 x H1 hy σ l z)) ?_ fun e s' hx => by rw [hxe] at hx; exact hx.elim
    rintro _ s3 ⟨σ3, H3, I4, l3, z3, q3⟩
    refine seg_bind_wrap ?_
    simp only [List.forIn_nil]
    refine wpAny_pure ?_
    simp only [if_true]
    have hyo : ∀ v, yieldOut Y.env v = yieldValue v := fun v => by simp only [yieldOut, hco, Bool.false_eq_true, if_false]
    simp only [hyo]
    rw [Sem.bind_eq_wrap', Sem.bind_eq_wrap', Sem.wrap_wrap, Sem.wrap_wrap]
    refine seg_wrap ?_
    rw [← hY]
    refine wpAny_mono (hel.run _ _ _ _ _ I4 q3) (fun y s4 h4 => ?_) fun e s' hx => by rw [hxe] at hx; exact hx.elim
    obtain ⟨r, H4, I5, rr, b, rfl, htr, hfa⟩ := h4
    obtain rfl : y = Value.bool b := rr
    have G4 : GInv2 Y a go fp tn L (i + 1) H4 s4 := by
      refine ⟨σ3, ps2, l3, z3, hm2, T.keep (i + 1) s2.heap s4.heap ht2 fun b hb o e => ?_, I5⟩
      rw [← hm2] at hb
      obtain ⟨p, hp, rfl⟩ := List.mem_map.mp hb
      rw [(ho2 p hp).1] at e
      cases e
      exact (I5.pin p (List.mem_append_right _ (List.mem_cons_of_mem _ hp))).1
    refine seg_at (seg_yield rfl rfl rfl ⟨b, i + 1, H4, rfl, G4, hfa, fun hb s' o g e => ?_⟩)
    exact seg_again rfl (ih (i + 1) H4 s' s' (G4.woke o g e) (htr hb))
theorem seg_itStart (hA : Aw.handled = none) (hY : Y.A = Aw.over (.compLoop (.GeneratorExp elt [⟨tg, iter, [], 0⟩] scope pos) 0 (.ref it) .none Y.env) []) (hco : Y.env.scope.isCoroutine = false) (hcl : Y.env.cells = []) (hex : ∀ b ∈ fp, b ∈ Y.ex) (ha : a ∉ fp) (hpn : Y.pn = [])
    (hcalm : Y.calm = true) (hxe : Y.xe = fun _ _ => False) (T : Turn Y.prog Y.w Y.K tg J fp it tn) (hg : PG Y tg g) (hel : PE Y elt te) {n : Nat} {H : Hp} {s₀ s : Shared} (hG : GInv2 Y a go fp tn L 0 H s) (hr : rdAllI g te J L n 0 H Q) :
    Seg (model Y.prog Y.w) Aw (gEnd Y Q) (gProt2 Y a go fp tn L Q) n s₀ (.compStart (.GeneratorExp elt [⟨tg, iter, [], 0⟩] scope pos) 0 (.ref it) .none Y.env)
      ((model Y.prog Y.w).den (.compStart (.GeneratorExp elt [⟨tg, iter, [], 0⟩] scope pos) 0 (.ref it) .none Y.env)) [] s := by
  have again : Seg (model Y.prog Y.w) Aw (gEnd Y Q) (gProt2 Y a go fp tn L Q) n s₀ (.compStart (.GeneratorExp elt [⟨tg, iter, [], 0⟩] scope pos) 0 (.ref it) .none Y.env) (.pure (.again (.compLoop (.GeneratorExp elt [⟨tg, iter, [], 0⟩] scope pos) 0 (.ref it) .none Y.env))) [] s :=
    seg_again rfl (seg_itLoop hA hY hco hcl hex ha hpn hcalm hxe T hg hel n 0 H s₀ s hG hr)
  obtain ⟨σ, ps, l, z, hm, ht, I⟩ := hG
  show Seg _ Aw _ _ _ s₀ _ ((compStart _ 0 (.ref it) .none Y.env).onRaise (leaving Y.env)) [] s
  unfold compStart
  rw [Sem.onRaise_eq_wrap]
  apply seg_bind_wrap (m := ask)
  apply wpAny_askSetting
  split
  · exact again
  · apply seg_bind_wrap
    apply wpAny_rule
    apply seg_bind_wrap
    apply wpAny_standAt
    apply seg_bind_wrap
    exact T.self _ 0 s _ _ ht again
end
theorem all_loop2 {Y : Cx} {A : Around} {a : Addr} {fp : List Addr} {tn : Nat → Heap → Prop} {L : Nat} {go : Obj} {g : Nat} {R : Result → Shared → Prop} {Q : Bool → Hp → Prop} (hh : A.handled = none) (hd : A.depth < recursionLimit) (G : GenO go g)
    (fin : ∀ b σ H s, Inv Y [] σ H s → Q b H → R (.ok (.ret (.bool b))) s) :
    ∀ (n : Nat) (s : Shared), s.heap.get? a = some go → s.heap.NoLimit → (∃ gs, s.gens[g]? = some gs ∧ gs.Goes (model Y.prog Y.w) A.in1.in1 (gEnd Y Q) (gProt2 Y a go fp tn L Q) n (.send .none) (s.setGen g .running)) →
      codeAny (model Y.prog Y.w) A (.builtin "all.loop" ⟨[.ref a], []⟩) R s := by
  intro n
  induction n with
  | zero =>
    intro s ha hl ⟨gs, hgs, hgo⟩
    apply codeAny_builtin F.entry_all_loop
    rw [Around.under_plainId F.plain_all_loop _]
    show wpAny _ A.in1 (pyNext (.ref a) >>= _) _ _ s
    apply wpAny_bind
    apply next_genG (A := A.in1) (F := gDone Y Q) (Er := fun _ _ => False) hh hl hd (G.at ha) hgs hgo
    · intro v s1 gs' hb hv
      obtain ⟨b, i, H, rfl, hG, hf, ht⟩ := hv
      cases b with
      | true =>
        obtain ⟨_, _, _, _, _, _, J⟩ := hG
        exact False.elim (ht rfl s1 rfl J.bare rfl)
      | false =>
        obtain ⟨σ, io, _, _, _, _, J⟩ := hG
        apply wpAny_bind
        apply wpAny_holding
        apply wpAny_truthy_bool
        apply wpAny_bind
        apply wpAny_letGo
        show wpAny _ _ (rule _ >>= _) _ _ _
        apply wpAny_bind
        apply wpAny_rule
        apply wpAny_pure
        exact fin false σ H _ (inv_gens (J.pins_of fun p hp => by simp at hp) rfl (allBare_setGen J.bare hb) fun _ _ e => e) (hf rfl)
    · intro s1 hp h' hk
      obtain ⟨σ, H, J, q⟩ := hp
      show wpAny _ _ (rule _ >>= _) _ _ _
      apply wpAny_bind
      apply wpAny_rule
      apply wpAny_pure
      exact fin true σ H _ (inv_gens J rfl (allBare_setGen J.bare rfl) hk) q
    · intro e s1 he
      exact he.elim
  | succ n ih =>
    intro s ha hl ⟨gs, hgs, hgo⟩
    have hgl : g < s.gens.size := (Array.getElem?_eq_some_iff.mp hgs).1
    apply codeAny_builtin F.entry_all_loop
    rw [Around.under_plainId F.plain_all_loop _]
    show wpAny _ A.in1 (pyNext (.ref a) >>= _) _ _ s
    apply wpAny_bind
    apply wpAny_gsz (n := g + 1) hgl
    apply next_genG (A := A.in1) (F := gDone Y Q) (Er := fun _ _ => False) hh hl hd (G.at ha) hgs hgo
    · intro v s1 gs' hb hv hsz
      obtain ⟨b, i, H, rfl, hG, hf, ht⟩ := hv
      have hG' := hG
      obtain ⟨σ, io, _, _, _, _, J⟩ := hG'
      have pa := J.pin (a, go) (List.mem_append_right _ (by simp))
      apply wpAny_bind
      apply wpAny_holding
      apply wpAny_truthy_bool
      apply wpAny_bind
      apply wpAny_letGo
      cases b with
      | false =>
        show wpAny _ _ (rule _ >>= _) _ _ _
        apply wpAny_bind
        apply wpAny_rule
        apply wpAny_pure
        exact fin false σ H _ (inv_gens (J.pins_of fun p hp => by simp at hp) rfl (allBare_setGen J.bare hb) fun _ _ e => e) (hf rfl)
      | true =>
        simp only [if_true]
        have hsz1 : g < s1.gens.size := by
          have q : (s1.setGen g gs').gens.size = s1.gens.size := setGen_size _ _ _
          have : g + 1 ≤ (s1.setGen g gs').gens.size := hsz
          omega
        refine wpAny_pure ⟨plainId_quiet F.plain_all_loop _, ih (s1.setGen g gs') pa.1 J.nolimit ⟨gs', setGen_at hsz1, ?_⟩⟩
        exact ht rfl _ rfl (allBare_setGen (s := s1.setGen g gs') (allBare_setGen J.bare hb) rfl) rfl
    · intro s1 hp h' hk hsz
      obtain ⟨σ, H, J, q⟩ := hp
      show wpAny _ _ (rule _ >>= _) _ _ _
      apply wpAny_bind
      apply wpAny_rule
      apply wpAny_pure
      exact fin true σ H _ (inv_gens J rfl (allBare_setGen J.bare rfl) hk) q
    · intro e s1 he
      exact he.elim

theorem envs_loopI {elt iter tg : Expr} {pos : Pos} {scope : Scope} {it acc : Value} {env : Env} {A : Around} {l : List Env} (h : A.frames = some l) : (A.over (.compLoop (.GeneratorExp elt [⟨tg, iter, [], 0⟩] scope pos) 0 it acc env) []).frames = some (env :: l) := by
  show pushEnvs (Code.envs (.compLoop (.GeneratorExp elt [⟨tg, iter, [], 0⟩] scope pos) 0 it acc env)) (pushEnvs [] A.frames) = _
  rw [h]
  rfl
theorem room_loopI {k : Nat} {A : Around} {elt iter tg : Expr} {pos : Pos} {scope : Scope} {it acc : Value} {env : Env} (r : Room (k + 1) A) : Room k (A.in1.in1.over (.compLoop (.GeneratorExp elt [⟨tg, iter, [], 0⟩] scope pos) 0 it acc env) []) := by
  have h1 : (A.in1.in1.over (.compLoop (.GeneratorExp elt [⟨tg, iter, [], 0⟩] scope pos) 0 it acc env) []).depth = A.in1.in1.depth + 1 := rfl
  have h2 : (A.in1.in1.over (.compLoop (.GeneratorExp elt [⟨tg, iter, [], 0⟩] scope pos) 0 it acc env) []).units = A.in1.in1.units + 3 := rfl
  have h3 : A.in1.in1.depth = A.depth := rfl
  have h4 : A.in1.in1.units = A.units + 1 + 1 := rfl
  have h5 := r.dp
  have h6 := r.un
  exact ⟨r.hd, by rw [h1, h3]; omega, by rw [h2, h4]; omega⟩
section
variable {X : Cx} {pins : List (Addr × Obj)} {σ : L2.St} {H : Hp} {s : Shared}
/-- made, not begun; what its whole walk by all leaves -/
def ReadyI (X : Cx) (pins : List (Addr × Obj)) (σ : L2.St) (R : Nat → (Bool → Hp → Prop) → Prop) (n L : Nat) (a : Addr) (s5 : Shared) : Prop :=
  ∃ (go : Obj) (g : Nat) (fp : List Addr) (tn : Nat → Heap → Prop), GenO go g ∧ s5.heap.get? a = some go ∧ s5.heap.NoLimit ∧ g < s5.gens.size ∧ ∀ Q : Bool → Hp → Prop, R n Q → ∃ (Y : Cx),
    Y.prog = X.prog ∧ Y.w = X.w ∧ (∃ gs, s5.gens[g]? = some gs ∧ gs.Goes (model Y.prog Y.w) X.A.in1.in1 (gEnd Y Q) (gProt2 Y a go fp tn L Q) n (.send .none) (s5.setGen g .running)) ∧
    ∀ b σ' H' s', Inv Y [] σ' H' s' → Q b H' → ∃ H'', Inv X pins σ H'' s' ∧ Q b H''
theorem gen_it {c P : Addr} {elt iter tg : Expr} {xs : List Str} {gpos : Pos} {scope : Scope} {te : TE} {g : TG} {wi : TI} {k : Nat} {Q' : Value → Shared → Prop} {R : It → Nat → Hp → Prop}
    (hr : Room (k + 1) X.A) (TB : GxR.TabB X.base X.mg c P) (hcode : X.env.code = .ref c) (S : ManyN scope xs) (hi : PI X tg iter wi)
    (hg : ∀ (s : Shared) (H : Hp) (cenv : Env) (B : Around) (fp : List Addr), cenv.scope = scope → PG (gyOf X xs s H cenv B fp) tg g)
    (hel : ∀ (s : Shared) (H : Hp) (C : Addr) (code : Value) (I : Addr) (fp : List Addr), Room k (X.A.in1.in1.over (.compLoop (.GeneratorExp elt [⟨tg, iter, [], 0⟩] scope gpos) 0 (.ref I) .none (genEnv scope [] C code builtinsNs X.env)) []) →
      PE (gyOf X xs s H (genEnv scope [] C code builtinsNs X.env) (X.A.in1.in1.over (.compLoop (.GeneratorExp elt [⟨tg, iter, [], 0⟩] scope gpos) 0 (.ref I) .none (genEnv scope [] C code builtinsNs X.env)) []) fp) elt te)
    (hs : ∀ v, genFold iter X.env v = pure v) (I0 : Inv X pins σ H s)
    (h : wi σ H fun J H1 => GxR.TabG H1 P ∧ ∀ H2, GxR.Tabbed P H1 H2 → ∃ n, R J n H2)
    (hQ : ∀ J n H2 a s5, R J n H2 → ReadyI X pins σ (fun n Q => rdAllI g te J (xs.length + 1) n 0 H2 Q) n (xs.length + 1) a s5 → Q' (.ref a) s5) :
    wpAny (model X.prog X.w) X.A (eval (.GeneratorExp elt [⟨tg, iter, [], 0⟩] scope gpos) X.env) Q' X.xe s := by
  have hcl : closureFor scope X.env = pure [] := by
    rw [closure_ok fun y hy hf => absurd hf (S.free y hy), clo_none S.free]
  have hroom : X.A.depth < recursionLimit := by
    have := hr.dp
    omega
  apply wpAny_GeneratorExp_make S.co hcl S.cell S.dot S.kind hroom ?_ hs
  refine wpAny_mono (hi.run pins s σ H _ I0 h) (fun v s0 w0 => wpAny_mono w0 ?_ fun _ _ z => z) fun _ _ z => z
  rintro _ s1 ⟨it, fp, tn, J, H1, rfl, I1, T, st, hf, ⟨tb, hP, ht⟩, q1⟩
  refine ⟨I1.nolimit, ?_⟩
  have tabS : s1.heap.get? P = some { cls := .none, data := .fields tb } := I1.hok P _ hP
  have Plt : P < s1.heap.objs.size := Heap.lt_size tabS
  refine gcode (s2 := s1) hcode (TB.code.keeps fun b u e => I1.bk b u e) tabS ht fun code h3 n3 tb3 hx hsz hP3 hmore ht3 => ?_
  obtain ⟨bm, ob, e1, e2, e3, e4, e5, e6, e7, e8⟩ := TB.bm
  have cP : cStatics ≠ P := fun e => by
    obtain ⟨_, hns, _⟩ := I1.nolimit
    obtain ⟨o', es, ep, ho', hd', _⟩ := hns
    rw [e, tabS] at ho'
    cases ho'
    cases hd'
  apply wpAny_builtinsFor (m := X.mg) (by rw [I1.ok.glob]; exact (I1.mod.glob.keeps I1.bk).extBut hx TB.gP) e1 e2 (hx _ _ e4 (I1.bk _ _ e5)) e6 e7 e8
  intro h5 hns hsb
  obtain ⟨more, em⟩ := hmore
  subst em
  have I4 := GxR.inv_tab (more := more) (h' := h3) (g' := s1.gens) (d' := s1.drawn) (t' := n3) I1 hP hx hP3 I1.bare
  generalize hgo : ({ cls := .type "generator", data := .fields #[.int s1.gens.size 0, .str "<genexpr>" (n3 + 1), .str (X.env.qual ++ "<genexpr>") (n3 + 1 + 1)] } : Obj) = go
  have GO : GenO go s1.gens.size := by
    subst hgo
    exact ⟨rfl, ⟨_, _, rfl⟩, rfl⟩
  have k5 : ∀ b u, h3.get? b = some u → h5.get? b = some u := fun b u e => hsb.extBut b u (Nat.ne_of_lt (Heap.lt_size e)) (Heap.get?_push_of_some _ e)
  have k6 : ∀ b u, h3.get? b = some u → (h5.push go).get? b = some u := fun b u e => Heap.get?_push_of_some _ (k5 b u e)
  have sz5 : h5.objs.size = h3.objs.size + 1 := by rw [hsb.1, Heap.size_push]
  have hga : (h5.push go).get? h5.objs.size = some go := by
    subst hgo
    exact Heap.get?_push_size _ rfl
  have god : ∀ v, go.data ≠ .cell v := fun v q => by
    obtain ⟨nm, qn, d⟩ := GO.data
    rw [d] at q
    cases q
  -- the walked objects
  have fpP : ∀ b ∈ fp, b ≠ P := fun b hb z => by
    have := (hf b hb).1
    rw [z, hP] at this
    cases this
  have lt1 : ∀ b ∈ fp, b < s1.heap.objs.size := fun b hb => by
    obtain ⟨o, e, _⟩ := T.obj 0 s1.heap st b hb
    exact Heap.lt_size e
  have k3 : ∀ b ∈ fp, ∀ o, s1.heap.get? b = some o → h3.get? b = some o := fun b hb o e => hx b o (fpP b hb) e
  have lt3 : ∀ b ∈ fp, b < h3.objs.size := fun b hb => by
    obtain ⟨o, e, _⟩ := T.obj 0 s1.heap st b hb
    exact Heap.lt_size (k3 b hb o e)
  have none2 : ∀ b ∈ fp, (upd H1 P (.tbl (tb ++ more))) b = none := fun b hb => by
    rw [upd_ne (fpP b hb)]
    exact (hf b hb).1
  have nst : ∀ b ∈ fp, b ∉ frs X.stack := fun b hb hm => by
    rcases List.mem_cons.mp (I1.stkSub b hm) with z | z
    · exact (hf b hb).2.1 z
    · exact (hf b hb).2.2.1 z
  have nstN : ∀ b, h3.objs.size ≤ b → b ∉ frs X.stack := fun b hb hm => by
    rcases List.mem_cons.mp (I4.stkSub b hm) with z | z
    · rw [z] at hb
      exact absurd (Nat.lt_of_lt_of_le I4.lt hb) (Nat.lt_irrefl _)
    · exact I4.nofs hb z
  have st3 : tn 0 h3 := T.keep 0 s1.heap h3 st k3
  have st6 : tn 0 (h5.push go) := T.keep 0 h3 (h5.push go) st3 fun b _ o e => k6 b o e
  obtain ⟨ps, hm, ho⟩ := objs_of (T.obj 0 _ st6)
  have aN : h5.objs.size ∉ fp := fun z => by
    have q : h5.objs.size < h3.objs.size := lt3 _ z
    rw [sz5] at q
    exact Nat.not_succ_lt_self q
  obtain ⟨n, qn⟩ := q1 _ ⟨⟨_, upd_same, ht3⟩, fun b hb => upd_ne hb⟩
  refine hQ J n _ _ _ qn ⟨go, s1.gens.size, fp, tn, GO, hga, I4.nolimit.keeps k6, by show _ < (s1.gens.push _).size; rw [Array.size_push]; exact Nat.lt_succ_self _, fun Q hrd => ?_⟩
  have KY : (gyOf X xs { s1 with heap := h3, gens := s1.gens, drawn := s1.drawn, toks := n3 } (upd H1 P (.tbl (tb ++ more))) (genEnv scope [] h3.objs.size code builtinsNs X.env)
      (X.A.in1.in1.over (.compLoop (.GeneratorExp elt [⟨tg, iter, [], 0⟩] scope gpos) 0 (.ref it) .none (genEnv scope [] h3.objs.size code builtinsNs X.env)) []) fp).Ok := by
    refine ⟨I4.ok.mod, S.kind, I4.ok.glob, rfl, Nat.le_refl _, fun y z c e _ => (by cases e), fun y hy => ?_, fun y c _ e => (by cases e), fun _ => hr.hd, envs_loopI I4.ok.frames, .inr ⟨rfl, rfl⟩, fun b hb => ⟨Nat.ne_of_lt (lt3 b hb), fun y c e => (by cases e)⟩, fun b o e => I4.bs b o e, Nat.le_trans I4.ok.bsz I4.sz, fun b o e hb => ?_, fun b hb => nst b hb, I4.stack, I4.stkFree⟩
    · have hy' : scope.names.lookup y = some .cell ∨ scope.names.lookup y = some .free := hy
      rcases hy' with z | z
      · exact absurd rfl (S.cell _ (PySem.mem_of_lookup z))
      · exact absurd rfl (S.free _ (PySem.mem_of_lookup z))
    · rcases (hf b hb).2.2.2.1 with z | z
      · exact I1.ok.noex b o e z
      · exact absurd (Nat.lt_of_lt_of_le (Heap.lt_size e) (Nat.le_trans I1.ok.bsz z)) (Nat.lt_irrefl _)
  refine ⟨gyOf X xs { s1 with heap := h3, gens := s1.gens, drawn := s1.drawn, toks := n3 } (upd H1 P (.tbl (tb ++ more))) (genEnv scope [] h3.objs.size code builtinsNs X.env)
      (X.A.in1.in1.over (.compLoop (.GeneratorExp elt [⟨tg, iter, [], 0⟩] scope gpos) 0 (.ref it) .none (genEnv scope [] h3.objs.size code builtinsNs X.env)) []) fp, rfl, rfl,
    ⟨_, Array.getElem?_push_size .., rfl, seg_itStart (Aw := X.A.in1.in1) hr.hd rfl S.co rfl (fun b hb => hb) aN rfl rfl rfl T (hg _ _ _ _ _ rfl) (hel _ _ _ _ _ _ (room_loopI hr)) ⟨List.replicate (xs.length + 1) none, ps, List.length_replicate .., by simp, hm, st6, ?_⟩ hrd⟩,
    fun b σ' H' s' J q => ⟨H', I4.call' (ch := fp) J.os J.base J.hok J.bare fun b hb => ⟨(hf b hb).2.2.2.1, (hf b hb).2.1, (hf b hb).2.2.2.2.1, (hf b hb).2.2.2.2.2⟩, q⟩⟩
  refine ⟨KY, rfl, allBare_setGen (AllBare.push I1.bare rfl) rfl, Un.kept k6, ⟨_, hns.push _, fun i y v _ h2 _ => ?_⟩, fun y c e => (by cases e), I4.hok.fresh (Nat.le_refl _), fun y c e => (by cases e), fun p hp => ?_, I4.hok.kept k6, ?_⟩
  · have h2' : (List.replicate (xs.length + 1) (none : Option V))[i]? = some (some v) := h2
    rw [List.getElem?_replicate] at h2'
    split at h2' <;> cases h2'
  · rcases List.mem_cons.mp (show p ∈ (h5.objs.size, go) :: ps from hp) with rfl | hp
    · exact ⟨hga, I4.hok.fresh (show h3.objs.size ≤ h5.objs.size by omega), (by show h5.objs.size ≠ h3.objs.size; omega), nstN _ (show h3.objs.size ≤ h5.objs.size by omega), god⟩
    · have hb : p.1 ∈ fp := hm ▸ List.mem_map.mpr ⟨p, hp, rfl⟩
      exact ⟨(ho p hp).1, none2 _ hb, Nat.ne_of_lt (lt3 _ hb), nst _ hb, (ho p hp).2⟩
  · show (List.replicate (xs.length + 1) (none : Option V)).length = ((".0" : Str) :: xs).length
    rw [List.length_replicate]
    rfl
end
/-- all(e for .. in ..): the def's table may have grown when the first is asked -/
def tAllI (P : Addr) (g : TG) (te : TE) (wi : TI) (L : Nat) : TE := fun σ H Q => wi σ H fun J H1 => GxR.TabG H1 P ∧ ∀ H2, GxR.Tabbed P H1 H2 → ∃ n, rdAllI g te J L n 0 H2 fun b H' => Q (.bl b) H'

section
variable {X : Cx}
theorem pe_allI {c P : Addr} {elt iter tg : Expr} {xs : List Str} {p pos gpos : Pos} {scope : Scope} {te : TE} {g : TG} {wi : TI} {k : Nat}
    (hr : Room (k + 1) X.A) (hgl : Gl X "all") (hm : X.mg "all" = none) (TB : GxR.TabB X.base X.mg c P) (hcode : X.env.code = .ref c) (S : ManyN scope xs) (hi : PI X tg iter wi)
    (hg : ∀ (s : Shared) (H : Hp) (cenv : Env) (B : Around) (fp : List Addr), cenv.scope = scope → PG (gyOf X xs s H cenv B fp) tg g)
    (hel : ∀ (s : Shared) (H : Hp) (C : Addr) (code : Value) (I : Addr) (fp : List Addr), Room k (X.A.in1.in1.over (.compLoop (.GeneratorExp elt [⟨tg, iter, [], 0⟩] scope gpos) 0 (.ref I) .none (genEnv scope [] C code builtinsNs X.env)) []) →
      PE (gyOf X xs s H (genEnv scope [] C code builtinsNs X.env) (X.A.in1.in1.over (.compLoop (.GeneratorExp elt [⟨tg, iter, [], 0⟩] scope gpos) 0 (.ref I) .none (genEnv scope [] C code builtinsNs X.env)) []) fp) elt te)
    (hs : ∀ v, genFold iter X.env v = pure v) (hb : bootBuiltins "all" = some (.builtin "all") := by decide +kernel)
    (he : starEach [.GeneratorExp elt [⟨tg, iter, [], 0⟩] scope gpos] X.env = (false, eval (.GeneratorExp elt [⟨tg, iter, [], 0⟩] scope gpos) X.env) :: starEach [] X.env := by rfl) :
    PE X (.Call (.Name "all" p) [.GeneratorExp elt [⟨tg, iter, [], 0⟩] scope gpos] [] pos) (tAllI P g te wi (xs.length + 1)) := by
  constructor
  intro pins s σ H Q I want
  have hroom : X.A.depth < recursionLimit := by
    have := hr.dp
    omega
  apply wpAny_Call_Name_kw (ld_blt I hgl hm hb ?_)
  apply PyProof.Rows.callWith_builtin1 ?_ he (by rfl)
  rw [he]
  show wpAny _ _ (spliced ((false, eval (.GeneratorExp elt [⟨tg, iter, [], 0⟩] scope gpos) X.env) :: backTo pos (starEach [] X.env))) _ _ s
  apply Calls.spliced_cons (gen_it (R := fun J n H2 => rdAllI g te J (xs.length + 1) n 0 H2 fun b H' => Q (.bl b) H') hr TB hcode S hi hg hel hs I want ?_)
  intro J n H2 a s5 k5 ready
  obtain ⟨go, gi, fp, tn, GO, ha, lim, _, fin⟩ := ready
  obtain ⟨Y, eP, eW, hgo, back⟩ := fin _ k5
  apply Calls.spliced_nil
  apply call_function_tree F.kind_all F.plain_all F.entry_all (F.args_all1 _)
  unfold Builtin.«all»
  refine wpAny_bind (m := oneArg "all" _) (wpAny_pure ?_)
  refine wpAny_bind (wpAny_pyIter_gen (GO.at ha) ?_)
  refine wpAny_pure ⟨plainId_quiet F.plain_all_loop _, ?_⟩
  have key := all_loop2 (Y := Y) (A := X.A) (fp := fp) (tn := tn) (L := xs.length + 1) (R := fun r s' => match r with | .ok (.ret v) => EP X pins σ Q v s' | .ok _ => False | .error e => X.xe e s') hr.hd hroom GO (fun b σ' H' s' J q => by
    obtain ⟨H'', J2, q2⟩ := back b σ' H' s' J q
    exact ⟨.bl b, H'', J2, rfl, q2⟩) n s5 ha lim hgo
  rw [eP, eW] at key
  exact key
end
section
variable {X : Cx}
theorem pg_two {x1 x2 : Str} {s : Shared} {H : Hp} {cenv : Env} {B : Around} {fp : List Addr} {scope : Scope} {p1 p2 pos : Pos} {n : Nat} (ec : cenv.scope = scope) (nd : List.Nodup [(".0" : Str), x1, x2]) (h1 : scope.names.lookup x1 = some .local) (h2 : scope.names.lookup x2 = some .local) :
    PG (gyOf X [x1, x2] s H cenv B fp) (.Tuple [.Name x1 p1, .Name x2 p2] n pos) (gTup X.K 2 (gCons (gName 1) (gCons (gName 2) gNil))) := by
  subst ec
  exact pg_tup (X := gyOf X [x1, x2] s H cenv B fp) rfl (pgs_cons (pg_name (X := gyOf X [x1, x2] s H cenv B fp) (i := 1) nd rfl (Or.inl h1)) (pgs_cons (pg_name (X := gyOf X [x1, x2] s H cenv B fp) (i := 2) nd rfl (Or.inl h2)) pgs_nil))
end
end Jf
set_option Elab.async false
set_option linter.all false
set_option maxRecDepth 100000
set_option maxHeartbeats 4000000
namespace PySem.W
open Lean Elab Tactic Meta PySem PySem.Calls PyProof.Rows Builtin Builtin.ObjectAttr Builtin.Getset_descriptor PyProof.V PySem.Spec
section
variable {prog : Program} {w : World} {A : Around} {E : Value → Shared → Prop} {s : Shared} {K : Frag} {x C : Addr} {ox : Obj} {od : Option Obj} {R : Result → Shared → Prop}
/-- an attribute of an error of the program's own class is asked of BaseException's own reader -/
theorem jf_asks {name : Str} {gt : Option Value} {ex : Bool} {Q : Value → Shared → Prop} (X : K.In s.heap) (I : InstAt s.heap x ox C od)
    (h1 : findIn K (.ref C) "__getattribute__" = some (some (.builtin "BaseException.__getattribute__"))) (h2 : findIn K (.ref C) "__getattr__" = some gt) (h3 : subIn K (.ref C) (.type "BaseException") = some true)
    (go : ∀ B : Around, wpAny (model prog w) B (Builtin.«object.__getattribute__» ⟨[.ref x, .str name s.toks], []⟩) (fun f s' => ∃ v, f = .done (.ret v) ∧ handedIn v = true ∧ Q v s') (fun _ _ => False) { s with toks := s.toks + 1 }) :
    wpAny (model prog w) A (getAttr (.ref x) name ex) Q E s := by
  have same : (onTheHeap (Value.ref C) && (.builtin "BaseException.__getattribute__" : Value) == .builtin "object.__getattribute__") = false := by
    rw [show ((.builtin "BaseException.__getattribute__" : Value) == .builtin "object.__getattribute__") = false from by decide +kernel]
    rfl
  have ofB : Looks (model prog w) s.heap (isInstance (.ref x) (.type "BaseException")) true := (I.type (M := model prog w)).andThen (looks_subIn X h3)
  have byB := PySem.F.excAttr_ValueError.ga
  unfold getAttr getAttrBy
  refine wpAny_bind (wpAny_mkText (wpAny_holding (wpAny_bind ((I.type (M := model prog w)).at (wpAny_bind ((looks_findIn X h1).at ?_))))))
  dsimp only
  rw [same, if_neg (by decide)]
  unfold getAttrByItsOwn hookBefore
  refine wpAny_bind ?_
  rw [if_pos (by rfl : onTheHeap (Value.ref C) = true)]
  refine (looks_findIn X h2).at (wpAny_bind (wpAny_attempt (wpAny_holding ?_)))
  unfold callGetattribute
  rw [if_neg (by cases ex <;> exact Bool.false_ne_true : ¬ (ex && onTheHeap (Value.builtin "BaseException.__getattribute__")) = true)]
  unfold boundAndCalled
  rw [byB.bind (.ref x)]
  refine wpAny_bind (wpAny_pure (wpAny_call (codeAny_call_builtin byB.plain PySem.F.entry_bexc_ga ?_)))
  refine check_slot (s := { s with toks := s.toks + 1 }) (i := "BaseException.__getattribute__") (owner := "BaseException") (n := "__getattribute__") (by decide +kernel) (by decide +kernel) ofB (PySem.F.args_bexc_ga (.ref x) (.str name s.toks)) ?_
  refine wpAny_mono (go _) (fun f s' hf => ?_) fun _ _ z => z.elim
  obtain ⟨v, rfl, hv, q⟩ := hf
  exact handed_on hv q
/-- its class -/
theorem jf_classX {gt : Option Value} {expr : Bool} {Q : Value → Shared → Prop} (X : K.In s.heap) (I : InstAt s.heap x ox C od) (h1 : findIn K (.ref C) "__getattribute__" = some (some (.builtin "BaseException.__getattribute__"))) (h2 : findIn K (.ref C) "__getattr__" = some gt)
    (h3 : subIn K (.ref C) (.type "BaseException") = some true) (h4 : findObj K C od "__class__" = some (.bind (.builtin "getset_descriptor.__get__") (.builtin "object.__class__"))) (h5 : mroIn K C (.type "object") = some true)
    (q : Q (.ref C) { s with toks := s.toks + 1 }) : wpAny (model prog w) A (getAttr (.ref x) "__class__" expr) Q E s := by
  refine jf_asks X I h1 h2 h3 fun B => ?_
  have found := looks_find (M := model prog w) X I h4
  unfold Builtin.«object.__getattribute__»
  refine wpAny_bind (wpAny_of_eq (a := ((Value.ref x : Value), [Value.str "__class__" s.toks])) (by first | rfl | (simp only [slotArgs]; rfl)) (wpAny_bind (wpAny_pure (wpAny_bind ((I.type (M := model prog w)).at (wpAny_bind (found.at ?_)))))))
  have J : K.In ({ s with toks := s.toks + 1 } : Shared).heap := X
  refine wpAny_bind (wpAny_holding (wpAny_call (class_get (s := { s with toks := s.toks + 1 }) (ox := ox) (od := od) J I h5 (wpAny_pure ⟨_, rfl, rfl, q⟩))))
theorem jf_dga (d tp : Value) (C : Addr) : descrGetArgs ⟨[d, .ref C, tp], []⟩ = pure (d, some (.ref C), given tp) := by rfl
/-- c.__name__, what its slot keeps -/
theorem jf_name_get {tp : Value} {o : Obj} {n : Str} {tk : Tok} (X : K.In s.heap) (ht : typeIn K (.ref C) = some (.type "type")) (hl : K.lookup C = some o) (hs : o.slots[2]? = some (some (.str n tk))) (h : R (.ok (.ret (.str n tk))) s) :
    codeAny (model prog w) A (.call (.builtin "getset_descriptor.__get__") ⟨[.builtin "type.__name__", .ref C, tp], []⟩) R s := by
  obtain ⟨hh, g, dr, t, os⟩ := s
  have L0 : Looks (model prog w) hh (typeOf (.ref C)) (.type "type") := looks_typeIn X ht
  have L1 : Looks (model prog w) hh (isSubtype (.type "type") (.type "type")) true := Looks.of_pure (by rw [isSubtype_type]; kernel_rfl)
  refine codeAny_call_builtin KF.slot_gs.plain KF.entry_gs (KF.slot_gs.check _ _ _ _ _ _ _ _ ktyn_type (KF.args_gs _ _ _) ?_)
  unfold Builtin.«getset_descriptor.__get__» descrGet
  rw [jf_dga]
  refine wpAny_bind (wpAny_pure ?_)
  unfold descrGetter descrCheckInstance descrNameAndClass isInstance
  simp only [ktyn_owner]
  repeat lk
  refine ⟨Code.quiet_builtin _ (by decide +kernel), codeAny_builtin ktyn_entry ?_⟩
  unfold Builtin.«type.__name__»
  dsimp only
  unfold Builtin.keptObject slotAt
  dsimp only
  refine wpAny_bind (wpAny_bind (wpAny_bind (wpAny_loadPart (X _ _ hl) ?_)))
  refine wpAny_pure (wpAny_pure ?_)
  rw [hs]
  exact wpAny_pure h
end
end PySem.W
namespace Jf
open PySem PySem.Spec PyProof.Rows L2 Evl
/-- what is asked of a class, so that its name is read -/
structure NmC (K : PySem.W.Frag) (C : Addr) (nm : Str) : Prop where
  ga : PySem.W.findIn K (.ref C) "__getattribute__" = some (some (.builtin "BaseException.__getattribute__"))
  gg : PySem.W.findIn K (.ref C) "__getattr__" = some none
  ex : PySem.W.subIn K (.ref C) (.type "BaseException") = some true
  cl : (PySem.W.clsIn K C).isSome = true
  kc : PySem.W.findIn K (.ref C) "__class__" = some (some (.builtin "object.__class__"))
  sp : PySem.W.specialIn K (.builtin "object.__class__") "__get__" = some (some (.builtin "getset_descriptor.__get__"))
  tk : PySem.W.takesIn K (.builtin "object.__class__") = some true
  mo : PySem.W.mroIn K C (.type "object") = some true
  rd : PySem.W.readsIn K C (.type "type") = true
  fd : PySem.W.findCls K (.ref C) (.type "type") "__name__" = some (.get (.builtin "getset_descriptor.__get__") (.builtin "type.__name__") (.ref C) (.type "type"))
  ty : PySem.W.typeIn K (.ref C) = some (.type "type")
  sl : ∃ o t, K.lookup C = some o ∧ o.slots[2]? = some (some (.str nm t))
/-- e.__class__.__name__ -/
def tNm (K : PySem.W.Frag) (te : TE) : TE := fun σ H Q => te σ H fun x H1 => ∃ (a C dx : Addr) (fs : List (Str × V)) (nm : Str), x = .ref a ∧ NmC K C nm ∧ H1 a = some (exo a C (some dx)) ∧ H1 dx = some (exd dx fs) ∧ Q (.str nm) H1
theorem pe_nm {X : Cx} {e : Expr} {te : TE} {p1 pos : Pos} (he : PE X e te) (hb1 : attributeBase e "__class__" X.env (eval e X.env) = eval e X.env := by rfl)
    (hb : attributeBase (.Attribute e "__class__" p1) "__name__" X.env (eval (.Attribute e "__class__" p1) X.env) = eval (.Attribute e "__class__" p1) X.env := by rfl) : PE X (.Attribute (.Attribute e "__class__" p1) "__name__" pos) (tNm X.K te) := by
  refine ⟨fun pins s σ H Q I h => ?_⟩
  refine attr_of hb (attr_of hb1 (thn (he.run pins s σ H _ I h) fun u s1 hh => ?_))
  obtain ⟨x, H1, I1, rx, a, C, dx, fs, nm, ex, T, ea, ed, q⟩ := hh
  subst ex
  obtain rfl : u = Value.ref a := rx
  obtain ⟨t1, ho⟩ := exo_at I1.hok ea
  obtain ⟨mA, hns, hr⟩ := exd_at I1.hok ed
  obtain ⟨od, hod, hl⟩ := lookIn_ns hns
  have J : PySem.W.InstAt s1.heap a { cls := .ref C, dict := some dx, data := .fields #[.ref t1, .none, .none, .none, .bool false, .none] } C (some od) := ⟨ho, rfl, rfl, hod⟩
  refine PySem.W.jf_classX I1.kIn J T.ga T.gg T.ex (PySem.W.findObj_dataE T.cl T.kc T.sp T.tk) T.mo ?_
  obtain ⟨o, t, e1, e2⟩ := T.sl
  have I2 := I1.tok (s1.toks + 1)
  have I3 := I1.tok (s1.toks + 1 + 1)
  refine PySem.W.cls_bind (s := { s1 with toks := s1.toks + 1 }) I2.kIn T.rd T.fd (wpAny_call (PySem.W.jf_name_get (s := { s1 with toks := s1.toks + 1 + 1 }) I3.kIn T.ty e1 e2 ?_))
  refine PySem.W.handed_on rfl ?_
  exact ⟨.str nm, H1, I3, ⟨t, rfl⟩, q⟩
end Jf
set_option Elab.async false
set_option linter.all false
set_option maxRecDepth 100000
set_option maxHeartbeats 4000000
namespace Jf
open PySem PySem.Spec PyProof.Rows L2 Evl
/-! ### error classes right under one class over ValueError, each with an `__init__` of its own that calls that one's -/
def clsOk (K : PySem.W.Frag) (C CM : Addr) (nm : Str) : Bool := match K.lookup C with
  | some ⟨.type "type", _, .cls cd, sl⟩ => (match sl.toList with
    | [_, _, _, _, some (.builtin n), _] => decide (n = "ValueError.__new__") && (decide (cd.name = nm) && (decide (cd.mro = [.ref C, .ref CM, .type "ValueError", .type "Exception", .type "BaseException", .type "object"]) && (decide (cd.hasDict = true) && decide (cd.hasDel = false))))
    | _ => false)
  | _ => false
/-- its name is read -/
def fdB (K : PySem.W.Frag) (C : Addr) : Bool := match PySem.W.findCls K (.ref C) (.type "type") "__name__" with
  | some (.get (.builtin g) (.builtin a) (.ref D) (.type t)) => decide (g = "getset_descriptor.__get__") && (decide (a = "type.__name__") && (decide (D = C) && decide (t = "type")))
  | _ => false
def slB (K : PySem.W.Frag) (C : Addr) (nm : Str) : Bool := match K.lookup C with
  | some o => (match o.slots[2]? with
    | some (some (Value.str n _)) => decide (n = nm)
    | _ => false)
  | none => false
def nmB (K : PySem.W.Frag) (C : Addr) (nm : Str) : Bool := PySem.W.readsIn K C (.type "type") && (fdB K C && (slB K C nm && decide (PySem.W.findIn K (.ref C) "kind" = some none)))
theorem fd_ok {K : PySem.W.Frag} {C : Addr} (h : fdB K C = true) : PySem.W.findCls K (.ref C) (.type "type") "__name__" = some (.get (.builtin "getset_descriptor.__get__") (.builtin "type.__name__") (.ref C) (.type "type")) := by
  unfold fdB at h
  split at h
  · rename_i g a D t e
    simp only [Bool.and_eq_true, decide_eq_true_eq] at h
    obtain ⟨rfl, rfl, rfl, rfl⟩ := h
    exact e
  · cases h
theorem sl_ok {K : PySem.W.Frag} {C : Addr} {nm : Str} (h : slB K C nm = true) : ∃ o t, K.lookup C = some o ∧ o.slots[2]? = some (some (.str nm t)) := by
  unfold slB at h
  split at h
  · rename_i o e
    split at h
    · rename_i n t e2
      simp only [decide_eq_true_eq] at h
      subst h
      exact ⟨o, t, e, e2⟩
    · cases h
  · cases h
/-- all that is asked of a class, as one truth -/
def errB (K : PySem.W.Frag) (C CM f : Addr) (nm : Str) : Bool :=
  nmB K C nm && (clsOk K C CM nm && (decide (PySem.W.findIn K (.ref C) "__setattr__" = some (some (.builtin "object.__setattr__"))) && (decide (PySem.W.subIn K (.ref C) (.type "BaseException") = some true) && (decide (PySem.W.typeIn K (.ref C) = some (.type "type")) &&
  (PySem.W.keepIn K (.ref C) && (decide (PySem.W.findIn K (.ref C) "__init__" = some (some (.ref f))) && (decide (PySem.W.typeIn K (.ref f) = some (.type "function")) && (decide (PySem.W.findIn K (.ref C) "value" = some none) &&
  (decide (PySem.W.findIn K (.ref C) "__getattribute__" = some (some (.builtin "BaseException.__getattribute__"))) && (decide (PySem.W.findIn K (.ref C) "__getattr__" = some none) && (PySem.W.hasDictIn K C &&
  (decide (PySem.W.findIn K (.ref C) "__class__" = some (some (.builtin "object.__class__"))) && (decide (PySem.W.specialIn K (.builtin "object.__class__") "__get__" = some (some (.builtin "getset_descriptor.__get__"))) && (decide (PySem.W.takesIn K (.builtin "object.__class__") = some true) &&
  (decide (PySem.W.mroIn K C (.type "object") = some true) && (decide (PySem.W.exmOne K (.ref C) (.ref CM) = some true) && !(C == CM)))))))))))))))))
structure ErrX (K : PySem.W.Frag) (C CM f : Addr) (nm : Str) : Prop where
  oex : OexC K C
  i : PySem.W.findIn K (.ref C) "__init__" = some (some (.ref f))
  t : PySem.W.typeIn K (.ref f) = some (.type "function")
  noV : PySem.W.findIn K (.ref C) "value" = some none
  ec : ErrC K C
  xf : XfC K C
  named : ∃ cd, PySem.W.clsIn K C = some cd ∧ cd.name = nm ∧ cd.mro = [.ref C, .ref CM, .type "ValueError", .type "Exception", .type "BaseException", .type "object"]
  exm : PySem.W.exmOne K (.ref C) (.ref CM) = some true
  ty : PySem.W.typeIn K (.ref C) = some (.type "type")
  neM : C ≠ CM
  nm : NmC K C nm
  noK : PySem.W.findIn K (.ref C) "kind" = some none
theorem cls_ok {K : PySem.W.Frag} {C CM : Addr} {nm : Str} (h : clsOk K C CM nm = true) : (∃ q N bs bm sn sub ab col dd k0 k1 k2 k3 k5, K.lookup C = some (excClassObj nm q C N bs bm true sn sub ab col dd k0 k1 k2 k3 k5 "ValueError.__new__") ∧ PySem.HandSPX.refsVE bm = true) ∧
    ∃ cd, PySem.W.clsIn K C = some cd ∧ cd.name = nm ∧ cd.mro = [.ref C, .ref CM, .type "ValueError", .type "Exception", .type "BaseException", .type "object"] := by
  unfold clsOk at h
  split at h
  · rename_i dd cd sl ho
    split at h
    · rename_i k0 k1 k2 k3 n k5 hs
      simp only [Bool.and_eq_true, decide_eq_true_eq] at h
      obtain ⟨rfl, h1, h2, h3, h4⟩ := h
      obtain ⟨nm', bs, mro, ns, qn, hd, sn, sub, ab, col, del⟩ := cd
      dsimp only at h1 h2 h3 h4
      subst h1 h2 h3 h4
      have hsl : sl = #[k0, k1, k2, k3, some (.builtin "ValueError.__new__"), k5] := by
        obtain ⟨l⟩ := sl
        simp only at hs
        rw [hs]
      subst hsl
      exact ⟨⟨qn, ns, bs, [.ref CM, .type "ValueError", .type "Exception", .type "BaseException", .type "object"], sn, sub, ab, col, dd, k0, k1, k2, k3, k5, ho, rfl⟩, _, by unfold PySem.W.clsIn; rw [ho], rfl, rfl⟩
    · cases h
  · cases h
theorem err_ok {K : PySem.W.Frag} {C CM f : Addr} {nm : Str} (h : errB K C CM f nm = true) : ErrX K C CM f nm := by
  unfold errB at h
  simp only [Bool.and_eq_true, decide_eq_true_eq, Bool.not_eq_true', beq_eq_false_iff_ne] at h
  obtain ⟨h0, h1, sa, ex, ty, kp, hi, ht, nv, ga, gg, hd, kc, sp, tk, mo, em, nM⟩ := h
  obtain ⟨⟨q, N, bs, bm, sn, sub, ab, col, dd, k0, k1, k2, k3, k5, hl, hr⟩, cd, hc, hn, hm⟩ := cls_ok h1
  unfold nmB at h0
  simp only [Bool.and_eq_true, decide_eq_true_eq] at h0
  refine ⟨⟨⟨nm, q, N, bs, bm, sn, sub, ab, col, dd, k0, k1, k2, k3, k5, hl, hr⟩, sa, ex, ty, kp⟩, hi, ht, nv, ⟨by rw [hc]; rfl, ga, gg, ex, hd, kc, sp, tk, mo⟩, ⟨ga, gg, ex, hd⟩, ⟨cd, hc, hn, hm⟩, em, ty, nM, ?_, ?_⟩
  · exact ⟨ga, gg, ex, by rw [hc]; rfl, kc, sp, tk, mo, h0.1, fd_ok h0.2.1, ty, sl_ok h0.2.2.1⟩
  · exact h0.2.2.2
section
variable {K : PySem.W.Frag} {C D CM f g : Addr} {nm nk : Str}
theorem kit_one (C : Addr) : PySem.W.kitOne K (.ref C) (.ref C) = some true := by
  unfold PySem.W.kitOne
  rw [if_pos (by simp)]
theorem ErrX.ne (a : ErrX K C CM f nm) (b : ErrX K D CM g nk) (h : nm ≠ nk) : C ≠ D := by
  rintro rfl
  obtain ⟨cd, h1, h2, _⟩ := a.named
  obtain ⟨ce, h3, h4, _⟩ := b.named
  rw [h1] at h3
  cases h3
  exact h (h2.symm.trans h4)
/-- isinstance by another of them -/
theorem ErrX.other (a : ErrX K C CM f nm) (b : ErrX K D CM g nk) (h : nm ≠ nk) : PySem.W.kitOne K (.ref C) (.ref D) = some false := by
  have n := a.ne b h
  obtain ⟨cd, h1, h2, h3⟩ := a.named
  obtain ⟨ce, h4, _, _⟩ := b.named
  unfold PySem.W.kitOne PySem.W.kitCls
  rw [if_neg (by simpa using n)]
  dsimp only
  rw [if_pos (by rw [h4, b.ty]; rfl)]
  show PySem.W.mroIn K C (.ref D) = some false
  unfold PySem.W.mroIn
  rw [h1, Option.bind_some, h3]
  simp [n.symm, b.neM]
theorem ErrX.off (a : ErrX K C CM f nm) (b : ErrX K D CM g nk) (n : C ≠ D) : PySem.W.kitOne K (.ref C) (.ref D) = some false := by
  obtain ⟨cd, h1, h2, h3⟩ := a.named
  obtain ⟨ce, h4, _, _⟩ := b.named
  unfold PySem.W.kitOne PySem.W.kitCls
  rw [if_neg (by simpa using n)]
  dsimp only
  rw [if_pos (by rw [h4, b.ty]; rfl)]
  show PySem.W.mroIn K C (.ref D) = some false
  unfold PySem.W.mroIn
  rw [h1, Option.bind_some, h3]
  simp [n.symm, b.neM]
theorem ErrX.self1 (a : ErrX K C CM f nm) : PySem.W.exmOne K (.ref C) (.ref C) = some true := by
  obtain ⟨cd, h1, h2, h3⟩ := a.named
  refine PySem.W.exm_ref a.ec.ex a.ec.hd a.ty ?_
  show PySem.W.mroIn K C (.ref C) = some true
  unfold PySem.W.mroIn
  rw [h1, Option.bind_some, h3]
  simp
theorem ErrX.base (a : ErrX K C CM f nm) : PySem.W.kitOne K (.ref C) (.ref CM) = some true := by
  have e := a.exm
  unfold PySem.W.exmOne at e
  split at e
  · unfold PySem.W.kitOne
    split
    · rfl
    · exact e
  · cases e
theorem ErrX.ve (a : ErrX K C CM f nm) : PySem.W.kitOne K (.ref C) (.type "ValueError") = some true := by
  obtain ⟨cd, h1, h2, h3⟩ := a.named
  unfold PySem.W.kitOne PySem.W.kitCls
  rw [if_neg (by simp)]
  dsimp only
  rw [if_pos (by decide +kernel)]
  show PySem.W.mroIn K C (.type "ValueError") = some true
  unfold PySem.W.mroIn
  rw [h1, Option.bind_some, h3]
  simp
theorem ErrX.self (a : ErrX K C CM f nm) (b : ErrX K D CM g nk) (h : nm = nk) (e : C = D) : PySem.W.kitOne K (.ref C) (.ref D) = some true := e ▸ kit_one C
end
/-- what such an error keeps -/
def kd (k : Str) (v : V) : List (Str × V) := [(("kind" : Str), .str k), (("value" : Str), v)]
/-- the object made of a class, its value kept -/
def ErrAt (K : PySem.W.Frag) (C : Addr) (v : V) (x : V) (H : Hp) : Prop := ∃ a dx k, x = .ref a ∧ H a = some (exo a C (some dx)) ∧ H dx = some (exd dx (kd k v))

/-! ### making one, as a value -/
def spInit (C : Addr) : Sp := fun vs H Q _ => ∃ (a : Addr) (v : V), vs = [.ref a, v] ∧ H a = some (exo a C none) ∧
  ∀ dx k H', H dx = none → dx ≠ a → H' a = some (exo a C (some dx)) → H' dx = some (exd dx (kd k v)) → (∀ b o, b ≠ a → H b = some o → H' b = some o) → Q .non H'
/-- .. of any of those classes -/
def spInitM (K : PySem.W.Frag) : Sp := fun vs H Q _ => ∃ (C a : Addr) (v : V) (nm : Str), vs = [.ref a, v] ∧ OexC K C ∧ PySem.W.findIn K (.ref C) "value" = some none ∧ PySem.W.findIn K (.ref C) "kind" = some none ∧ NmC K C nm ∧ H a = some (exo a C none) ∧
  ∀ dx k H', H dx = none → dx ≠ a → H' a = some (exo a C (some dx)) → H' dx = some (exd dx (kd k v)) → (∀ b o, b ≠ a → H b = some o → H' b = some o) → Q .non H'
def tMkV (C : Addr) (sp : Sp) (ta : TA) : TE := fun σ H Q => ta σ H fun vs H1 => vs.length ≤ 1000 ∧ ∀ a, H1 a = none → sp (.ref a :: vs) (upd H1 a (exo a C none)) (fun v H2 => v = .non ∧ Q (.ref a) H2) (fun _ _ _ => False)
section
variable {X : Cx} {e : Expr} {es : List Expr} {ta : TA} {x m : Str} {p p1 p2 pos : Pos} {k : Nat} {fd : FuncData} {ps : List Str} {sp : Sp}
/-- C(e, ..) -/
theorem pe_mkv {CX : CXT} {C fI : Addr} (T : OexC X.K C) (iC : PySem.W.findIn X.K (.ref C) "__init__" = some (some (.ref fI))) (tI : PySem.W.typeIn X.K (.ref fI) = some (.type "function"))
    (F1 : FnOk X.prog X.w X.K X.mg X.base CX k fI fd ps sp) (hr : Room (k + 1) X.A) (hb : Binds X.K fd ps []) (hx : Passes CX X (fun _ _ _ => False)) (hg : Gl X x) (hm : X.mg x = some (.ref C)) (ha : PA X (e :: es) ta)
    (hdb : (x == ("__debug__" : Str)) = false := by decide) (he : starEach (e :: es) X.env = (false, eval e X.env) :: starEach es X.env := by rfl) (hpl : (backTo pos (starEach es X.env)).any (·.1) = false := by rfl) :
    PE X (.Call (.Name x p) (e :: es) [] pos) (tMkV C sp ta) := by
  refine ⟨fun pins s σ H Q I h => ?_⟩
  obtain ⟨nm, q, N, bs, bm, sn, sub, ab, col, dd, k0, k1, k2, k3, k5, hC, hbm⟩ := T.cls
  refine wpAny_Call_Name_kw (ld_glob I hg hm ?_ hdb)
  refine PySem.W.callWith_K (h₀ := X.base) I.ok.mod.kin T.kC (thn (ha.run pos pins s σ H _ I h) fun us s1 ⟨vs, H1, I1, r1, hz, q1⟩ => ⟨I1.kIn, ?_⟩) he hpl
  show wpAny _ _ (call (.ref C) us) _ _ _
  obtain ⟨hp, g, dr, tk, os⟩ := s1
  have hsz : hp.objs.size ≤ hp.objs.size + 1 := Nat.le_succ _
  have hn : H1 (hp.objs.size + 1) = none := I1.hok.fresh hsz
  have hq := q1 (hp.objs.size + 1) hn
  have kk : ∀ b o, hp.get? b = some o → ((hp.push (PySem.W.kdv_tup us)).push (PySem.HandSPX.excO C hp.objs.size)).get? b = some o := fun b o e => Heap.get?_push_of_some _ (Heap.get?_push_of_some _ e)
  have hget : ((hp.push (PySem.W.kdv_tup us)).push (PySem.HandSPX.excO C hp.objs.size)).get? (hp.objs.size + 1) = some (PySem.HandSPX.excO C hp.objs.size) := by heap_get
  have I2 : Inv X pins σ (upd H1 (hp.objs.size + 1) (exo (hp.objs.size + 1) C none)) ⟨(hp.push (PySem.W.kdv_tup us)).push (PySem.HandSPX.excO C hp.objs.size), g, dr, tk, os⟩ :=
    I1.laid (t' := tk) (a := hp.objs.size + 1) (o := exo (hp.objs.size + 1) C none) (h' := (hp.push (PySem.W.kdv_tup us)).push (PySem.HandSPX.excO C hp.objs.size)) kk hsz (exo_ok hget)
  have r2 : Vals (V.ref (hp.objs.size + 1) :: vs) (Value.ref (hp.objs.size + 1) :: us) := .cons rfl r1
  have hl : (Value.ref (hp.objs.size + 1) :: us ++ []).length = ps.length := by
    have e := r2.length
    rw [F1.len _ _ _ _ hq] at e
    rw [List.append_nil]
    exact e.symm
  have hus : us.length ≤ sizeLine := by
    rw [← Paired.length r1, sizeLine_eq]
    omega
  have hb2 := hb _ (Value.ref (hp.objs.size + 1) :: us) I2.kIn hl
  rw [List.append_nil] at hb2
  refine wpAny_call (PySem.HandSPX.call_own F.excBase_ValueError (fun Y => PySem.HandSPX.refsVE_contains Y bm hbm) (I1.kIn _ _ hC) (PySem.W.looks_findIn I1.kIn iC) (fun self => PySem.W.bind_fn I1.kIn self tI) hus
    (codeAny_mono (F1.run _ X.stack _ _ ⟨Value.ref (hp.objs.size + 1) :: us, []⟩ (Value.ref (hp.objs.size + 1) :: us) _ _ (fun _ _ _ => False) (hr.make C us []) (I2.env0.make C us []) hb2 r2 hq) fun r s' hq' => ?_))
  cases r with
  | error er => exact hx pins σ _ _ er s' I2 hq'
  | ok fl =>
    cases fl with
    | ret u =>
      obtain ⟨v, H2, os2, bare2, un2, hok2, rv, ev, q2⟩ := hq'
      subst ev
      obtain ⟨h2, g2, d2, t2, os'⟩ := s'
      exact ⟨rv, .ref (hp.objs.size + 1), H2, I2.call' (ch := []) os2 un2 hok2 bare2 (fun b z => absurd z (by simp)), rfl, q2⟩
    | next => exact False.elim hq'
    | brk => exact False.elim hq'
    | cont => exact False.elim hq'
/-- C.m(e, ..), m a def of the class C itself -/
theorem pe_clsdef {CX : CXT} {C f : Addr} {mc : Value} {E : XK} {pl : Sem Bool} (hg : Gl X x) (hm : X.mg x = some (.ref C)) (rd : PySem.W.readsIn X.K C mc = true) (ga : PySem.W.specialIn X.K (.ref C) "__getattribute__" = some (some (.builtin "type.__getattribute__")))
    (fi : PySem.W.findCls X.K (.ref C) mc m = some (.val (.ref f))) (hk : PySem.W.keepIn X.K (.ref f) = true) (F1 : FnOk X.prog X.w X.K X.mg X.base CX k f fd ps sp) (hr : Room k X.A) (hb : Binds X.K fd ps []) (hx : Passes CX X E) (ha : PA X (e :: es) ta)
    (hdb : (x == ("__debug__" : Str)) = false := by decide)
    (hc : eval (.Call (.Attribute (.Name x p1) m p2) (e :: es) [] pos) X.env = (do
      let ov ← eval (.Name x p1) X.env
      standAt p2.atName
      let (f, first) ← holding [ov] (getMethod ov m pl)
      callWith pos f first (backTo pos (starEach (e :: es) X.env)) (backToKw pos (keywordEach [] X.env))) := by rfl)
    (he : starEach (e :: es) X.env = (false, eval e X.env) :: starEach es X.env := by rfl) (hpl : (backTo pos (starEach es X.env)).any (·.1) = false := by rfl) :
    PE X (.Call (.Attribute (.Name x p1) m p2) (e :: es) [] pos) (tCall sp [] E ta) := by
  refine ⟨fun pins s σ H Q I h => ?_⟩
  refine PySem.W.methodCall_KW (ld_glob I hg hm ?_ hdb) hc
  refine PySem.W.method_cls I.kIn ga (PySem.W.cls_value I.kIn rd fi rfl ?_)
  show wpAny _ _ (callWith pos (Value.ref f) [] (backTo pos (starEach (e :: es) X.env)) []) _ _ _
  refine PySem.W.callWith_K (h₀ := X.base) I.ok.mod.kin hk (thn (ha.run pos pins _ σ H _ (I.tok _) h) fun us s1 ⟨vs, H1, I1, r, q⟩ => ⟨I1.kIn, ?_⟩) he hpl
  exact run_fn F1 hr hb .nil hx I1 r q
end
/-! ### what is asked of such an object -/
/-- isinstance(e, c) -/
def rIsX (K : PySem.W.Frag) : List V → Hp → VK → Prop := fun xs H Q => ∃ (a C dd : Addr) (fs : List (Str × V)) (c : V) (cv : Value) (b : Bool), xs = [.ref a, c] ∧ (∀ u, RelV c u → u = cv) ∧ ErrC K C ∧ H a = some (exo a C (some dd)) ∧ H dd = some (exd dd fs) ∧ PySem.W.kitOne K (.ref C) cv = some b ∧ Q (.bl b) H
theorem call_isX {X : Cx} : CallR X (.builtin "isinstance") (rIsX X.K) := by
  intro pins s σ H xs us Q I r h
  obtain ⟨a, C, dd, fs, c, cv, b, rfl, hcv, T, ea, ed, hk, q⟩ := h
  cases r with
  | cons rx rr =>
    cases rr with
    | cons rt rr =>
      cases rr
      cases rx
      have ec := hcv _ rt
      subst ec
      obtain ⟨t1, ho⟩ := exo_at I.hok ea
      obtain ⟨mA, hns, rel⟩ := exd_at I.hok ed
      obtain ⟨od, hod, _⟩ := lookIn_ns hns
      have J : PySem.W.InstAt s.heap a { cls := .ref C, dict := some dd, data := .fields #[.ref t1, .none, .none, .none, .bool false, .none] } C (some od) := ⟨ho, rfl, rfl, hod⟩
      refine PySem.W.kia_one (PySem.W.kitx_exc T.cl T.ga T.gg T.ex T.kc T.sp T.tk T.mo) I.kIn J hk (fun z => nomatch z) ?_
      intro tk
      exact ⟨.bl b, H, I.kept (t' := tk) fun _ _ z => z, rfl, q⟩
/-- e.f -/
def tXo (K : PySem.W.Frag) (f : Str) (te : TE) : TE := fun σ H Q => te σ H fun x H1 => ∃ (a C dd : Addr) (fs : List (Str × V)) (v : V), x = .ref a ∧ XfC K C ∧ PySem.W.findIn K (.ref C) f = some none ∧ H1 a = some (exo a C (some dd)) ∧ H1 dd = some (exd dd fs) ∧ fs.lookup f = some v ∧ Q v H1
theorem pe_xo {X : Cx} {e : Expr} {te : TE} {pos : Pos} {n : Str} (he : PE X e te) (hb : attributeBase e n X.env (eval e X.env) = eval e X.env := by rfl) : PE X (.Attribute e n pos) (tXo X.K n te) := by
  refine ⟨fun pins s σ H Q I h => ?_⟩
  refine attr_of hb (thn (he.run pins s σ H _ I h) fun u s1 hh => ?_)
  obtain ⟨x, H1, I1, rx, a, C, dd, fs, v, ex, T, hno, ea, ed, l, q⟩ := hh
  subst ex
  obtain rfl : u = Value.ref a := rx
  obtain ⟨t1, ho⟩ := exo_at I1.hok ea
  obtain ⟨mA, hns, hr⟩ := exd_at I1.hok ed
  obtain ⟨od, hod, hl⟩ := lookIn_ns hns
  obtain ⟨u, hu, ru⟩ := RelO.some_of (v := v) (o := mA n) (by rw [← l]; exact hr n)
  have J : PySem.W.InstAt s1.heap a { cls := .ref C, dict := some dd, data := .fields #[.ref t1, .none, .none, .none, .bool false, .none] } C (some od) := ⟨ho, rfl, rfl, hod⟩
  exact HandSPX.exc_get I1.kIn J T.ga T.gg T.exC (PySem.W.findObj_own T.hdC hno rfl (by rw [hl, hu])) (handed_of ru) ⟨v, H1, I1.tok _, ru, q⟩
/-! ### the class of all of them -/
def baseB (K : PySem.W.Frag) (C f : Addr) : Bool := PySem.W.readsIn K C (.type "type") && (decide (PySem.W.specialIn K (.ref C) "__getattribute__" = some (some (.builtin "type.__getattribute__"))) && PySem.W.keepIn K (.ref f))
/-- how the class of all of them stands -/
structure BaseK (K : PySem.W.Frag) (mg : Str → Option Value) (nm q : Str) (st : Stmt) where
  C : Addr
  f : Addr
  fd : FuncData
  g : mg nm = some (.ref C)
  F : Fun K "__init__" q st f fd
  b : Binds K fd ["self", "value"] []
  rd : PySem.W.readsIn K C (.type "type") = true
  ga : PySem.W.specialIn K (.ref C) "__getattribute__" = some (some (.builtin "type.__getattribute__"))
  fi : PySem.W.findCls K (.ref C) (.type "type") "__init__" = some (.val (.ref f))
  kp : PySem.W.keepIn K (.ref f) = true
/-- how one of them stands -/
structure ErrK (K : PySem.W.Frag) (mg : Str → Option Value) (nm q : Str) (CM : Addr) (st : Stmt) where
  C : Addr
  f : Addr
  fd : FuncData
  g : mg nm = some (.ref C)
  F : Fun K "__init__" q st f fd
  b : Binds K fd ["self", "value"] []
  x : ErrX K C CM f nm
theorem base_ok {K : PySem.W.Frag} {C f : Addr} (h : baseB K C f = true) : PySem.W.readsIn K C (.type "type") = true ∧ PySem.W.specialIn K (.ref C) "__getattribute__" = some (some (.builtin "type.__getattribute__")) ∧ PySem.W.keepIn K (.ref f) = true := by
  unfold baseB at h
  simp only [Bool.and_eq_true, decide_eq_true_eq] at h
  exact h
/-! ### list.count of truths -/
def eqb (k : Bool) (v : Value) : Bool := match v with
  | .bool n => n == k
  | _ => false
def rCntB (K : PySem.W.Frag) : V → List V → Hp → VK → Prop := fun x xs H Q => ∃ (p : Addr) (ns : List Bool) (k : Bool), x = .ref p ∧ xs = [.bl k] ∧ SqL K H p (ns.map V.bl) ∧ Q (.int (ns.count k : Nat)) H
theorem vals_bl : ∀ {ns : List Bool} {us : List Value}, Vals (ns.map V.bl) us → us = ns.map Value.bool
  | [], us, r => by cases r; rfl
  | n :: ns, us, r => by
    cases r with
    | cons h r2 =>
      have e := vals_bl r2
      rw [e]
      cases (show _ = Value.bool n from h)
      rfl
theorem eqb_count (k : Bool) : ∀ ns : List Bool, (ns.map Value.bool).countP (eqb k) = ns.count k
  | [] => rfl
  | n :: ns => by
    rw [List.map_cons, List.countP_cons, List.count_cons, eqb_count k ns]
    rfl
theorem mt_bcount {X : Cx} : MtR X "list.count" (rCntB X.K) := by
  intro pins s σ H x xs v us Q I rx rxs h
  obtain ⟨p, ns, k, rfl, rfl, hs, q⟩ := h
  cases rx
  obtain ⟨u, rfl, ru⟩ := rxs.one
  obtain rfl : u = Value.bool k := ru
  obtain ⟨its, rv, ⟨⟨cls, dd, data, sl⟩, n, ho, hc, hdn, hd⟩, hlen⟩ := I.list hs
  simp only at hc hd
  subst hc hd
  have hi := vals_bl rv
  subst hi
  refine call_meets PySem.F.slot_list_count ⟨_, ho, rfl⟩ PySem.F.entry_list_count (PySem.F.args_list_count_2 _ _)
    (SeqAt.list_countAt p (ns.map Value.bool).toArray n dd sl (.bool k) (eqb k)) ⟨ho, fun y hy => ?_, ?_⟩
  · have hy' : y ∈ ns.map Value.bool := by simpa using hy
    obtain ⟨b, _, rfl⟩ := List.mem_map.mp hy'
    exact SeqAt.EqAt.bool_bool b k
  have ec : (ns.map Value.bool).toArray.toList.countP (eqb k) = ns.count k := eqb_count k ns
  refine ⟨.int (ns.count k : Nat), H, I.tok _, ⟨s.toks, ?_⟩, q⟩
  show Value.int (((ns.map Value.bool).toArray.toList.countP (eqb k) : Nat) : Int) s.toks = Value.int ((ns.count k : Nat) : Int) s.toks
  rw [ec]
end Jf
set_option Elab.async false
set_option linter.all false
set_option maxRecDepth 100000
set_option maxHeartbeats 4000000
namespace Jf
open PySem PySem.Spec PyProof.Rows L2 Evl
/-- list(xs): a new list, not at sys.modules -/
def rListN (K : PySem.W.Frag) : List V → Hp → VK → Prop := fun xs H Q => ∃ (p : Addr) (ys : List V), xs = [.ref p] ∧ (SqL K H p ys ∨ SqT K H p ys) ∧ ∀ l, H l = none → l ≠ sysModules → Q (.ref l) (upd H l (.lst ys))
theorem call_listN {X : Cx} : CallR X (.type "list") (rListN X.K) := by
  rintro pins s σ H xs us Q I r ⟨p, ys, rfl, from_, k⟩
  obtain ⟨u, rfl, ru⟩ := vals1 r
  cases ru
  have done : ∀ its : List Value, Vals ys its → ys.length ≤ sizeLine → ∀ (h' : Heap) (n : Nat), (∀ b o, s.heap.get? b = some o → h'.get? b = some o) → h'.get? s.heap.objs.size = some { cls := .type "list", dict := none, data := .seq its.toArray n, slots := #[] } →
      EP X pins σ Q (.ref s.heap.objs.size) { s with heap := h' } := by
    intro its vals len h' n kp e
    have hf : H s.heap.objs.size = none := I.hok.fresh (Nat.le_refl _)
    refine ⟨.ref _, upd H _ (.lst ys), I.laid (t' := s.toks) kp (Nat.le_refl _) ?_, rfl, k _ hf (Nat.ne_of_gt I.big)⟩
    exact ⟨len, its, n, vals, e⟩
  rcases from_ with h | h
  · obtain ⟨its, vals, pl, len⟩ := I.list h
    have e := vals.length
    obtain ⟨o, e1, e2, n, e3⟩ := pl.isList
    exact call_list_seq p (.inl rfl) e1 e2 e3 (done its vals len) (by simp only [List.size_toArray]; omega)
  · obtain ⟨its, vals, pl, len⟩ := I.tuple h
    have e := vals.length
    obtain ⟨o, e1, e2, n, e3⟩ := pl
    exact call_list_seq p (.inr rfl) e1 e2 e3 (done its vals len) (by simp only [List.size_toArray]; omega)
end Jf
set_option Elab.async false
set_option linter.all false
set_option maxRecDepth 100000
set_option maxHeartbeats 4000000
namespace Jf
open PySem PySem.Spec PyProof.Rows L2
/-! ### several clauses, each with a name -/
/-- what the clauses wish of an exception of the body, one after the other -/
def wAsM (K : PySem.W.Frag) (Wout : WX) (D : Ends) : List (Value × Nat × (Addr → Value → Option Addr → TS)) → WX
  | [] => Wout
  | (c, i, ts) :: r => fun cls d σ H => ∃ b, PySem.W.exmOne K cls c = some b ∧
      (b = true → ∀ a, H a = none → ts a cls d { nx := fun σ' H' => D.nx (σ'.set i none) H', rt := D.rt, bk := fun σ' H' => D.bk (σ'.set i none) H', ct := fun σ' H' => D.ct (σ'.set i none) H' } (σ.set i (some (.ref a))) H) ∧
      (b = false → wAsM K Wout D r cls d σ H)
inductive HdsAs (X : Cx) : List ExceptHandler → List (Value × Nat × (Addr → Value → Option Addr → TS)) → Prop
  | nil : HdsAs X [] []
  | cons {x n : Str} {c : Value} {i : Nat} {ts : Addr → Value → Option Addr → TS} {b₀ : Stmt} {suite : List Stmt} {np pos' : Pos} {hds : List ExceptHandler} {l : List (Value × Nat × (Addr → Value → Option Addr → TS))}
      (hi : X.N[i]? = some n) (hln : X.env.kindOf n = some .local) (hc : Names X x c)
      (hsu : ∀ (a : Addr) (oe : Obj) (cls : Value) (d : Option Addr) (pn : List (Addr × Obj)), Zc cls d oe → (∃ vs, oe.data = .fields vs) → PSs (X.suite a ((a, oe) :: pn)) (b₀ :: suite) (ts a cls d)) (r : HdsAs X hds l) :
      HdsAs X (.ExceptHandler (some (.Name x np)) (some n) (b₀ :: suite) pos' :: hds) ((c, i, ts) :: l)
section
variable {X : Cx} {body : List Stmt} {h₀ : ExceptHandler} {hds : List ExceptHandler} {l : List (Value × Nat × (Addr → Value → Option Addr → TS))} {pos : Pos} {tb : WX → TS} {Wout : WX}
/-- an error of the body has come to the clauses: where it stands, and the state sI without it -/
structure Came (X : Cx) (pins : List (Addr × Obj)) (σ : L2.St) (H : Hp) (a : Addr) (cls : Value) (d : Option Addr) (B : Heap) (sI s : Shared) (h : Heap) : Prop where
  inv : Inv X pins σ H sI
  nb : ∀ b o, sI.heap.get? b = some o → b ∉ frs X.stack → B.get? b = some o
  free : H a = none
  os : s.os = sI.os
  ag : AllBare s.gens
  fl : HandSPX.FlyingZ B (X.env :: X.outer) a (Zc cls d) h
  up : sI.heap.UpToSlots h
section
variable {pins : List (Addr × Obj)} {σ : L2.St} {H : Hp} {a : Addr} {cls : Value} {d : Option Addr} {B h : Heap} {sI s : Shared} {D : Ends}
theorem Came.again {h' : Heap} (c : Came X pins σ H a cls d B sI s h) (f : HandSPX.FlyingZ B (X.env :: X.outer) a (Zc cls d) h') (u : h.UpToSlots h') : Came X pins σ H a cls d B sI s h' := ⟨c.inv, c.nb, c.free, c.os, c.ag, f, c.up.trans u⟩
theorem Came.here (c : Came X pins σ H a cls d B sI s h) : Inv X pins σ H { s with heap := h } := c.inv.landed c.nb c.fl.1 c.up c.os c.ag
theorem Came.off (hf : X.env.frame = some X.env.locals) (c : Came X pins σ H a cls d B sI s h) : a ≠ X.env.locals ∧ a ∉ X.fs := by
  obtain ⟨o, vs, e1, _, e2⟩ := c.fl.there
  have out : a ∉ frs (X.env :: X.outer) := fun hm => by
    obtain ⟨_, o', e3, n⟩ := c.fl.2.2.1.mem hm
    rw [e1] at e3
    cases e3
    exact n _ e2
  constructor
  · rintro rfl
    exact out (List.mem_filterMap.mpr ⟨X.env, List.mem_cons_self, hf⟩)
  · intro hm
    obtain ⟨e, he, q⟩ := List.mem_filterMap.mp hm
    exact out (List.mem_filterMap.mpr ⟨e, List.mem_cons_of_mem _ he, q⟩)
theorem Came.in (hf : X.env.frame = some X.env.locals) (c : Came X pins σ H a cls d B sI s h) : ∃ o vs, h.get? a = some o ∧ Zc cls d o ∧ o.data = .fields vs ∧ Inv (X.suite a ((a, o) :: (X.pn ++ pins))) [] σ H { s with heap := h } := by
  obtain ⟨o, vs, e1, e2, e3⟩ := c.fl.there
  exact ⟨o, vs, e1, e2, e3, c.here.suite e1 e3 c.free (c.off hf).1 (c.off hf).2⟩
/-- no clause takes it -/
theorem Came.on (hs : X.stack = X.env :: X.outer) (hf : X.env.frame = some X.env.locals) (tk : Takes X Wout) (c : Came X pins σ H a cls d B sI s h) (w : Wout cls d σ H) : wpAny (model X.prog X.w) X.A (handleBy (.ref a) X.env []) (SP X pins D) X.xe { s with heap := h } := by
  obtain ⟨_, _, _, o, vs, T, _, _, e1, _, e3, e4, _⟩ := id c.fl
  have last : wpAny (model X.prog X.w) X.A (setFlight (.ref a) X.env.frame) (fun _ s₁ => wpAny (model X.prog X.w) X.A (throw (.ref a) : Sem Flow) (SP X pins D) X.xe s₁) X.xe { s with heap := h } := by
    rw [hf]
    exact HandSPX.setFlight_upZ c.fl fun h' held u => wpAny_throw (tk _ _ ⟨a, B, sI, pins, σ, H, cls, d, rfl, c.inv, c.nb, c.up.trans u, .inr (.inr (hs ▸ held)), c.free, c.os, c.ag, w⟩)
  refine wpAny_handleBy_nil ?_
  unfold PySem.passOn
  refine wpAny_bind (wpAny_field e1 e3 e4 ?_)
  rw [if_neg (by simp : ¬ ((Value.ref T == Value.none) = true))]
  first
    | exact wpAny_bind last
    | exact wpAny_bind (wpAny_pure (wpAny_bind last))
/-- one takes it: its suite -/
theorem Came.go {i : Nat} {n : Str} {b₀ : Stmt} {suite : List Stmt} {pos' : Pos} {ts : Addr → Value → Option Addr → TS} (ok : Cx.Ok X) (hN : X.N.Nodup) (hf : X.env.frame = some X.env.locals) (hi : X.N[i]? = some n) (hln : X.env.kindOf n = some .local)
    (hsu : ∀ (a : Addr) (oe : Obj) (cls : Value) (d : Option Addr) (pn : List (Addr × Obj)), Zc cls d oe → (∃ vs, oe.data = .fields vs) → PSs (X.suite a ((a, oe) :: pn)) (b₀ :: suite) (ts a cls d)) (c : Came X pins σ H a cls d B sI s h)
    (w : ts a cls d { nx := fun σ' H' => D.nx (σ'.set i none) H', rt := D.rt, bk := fun σ' H' => D.bk (σ'.set i none) H', ct := fun σ' H' => D.ct (σ'.set i none) H' } (σ.set i (some (.ref a))) H) (o : Obj) (vs : Array Value)
    (e2 : Zc cls d o) (e3 : o.data = .fields vs) (S : Inv (X.suite a ((a, o) :: (X.pn ++ pins))) [] σ H { s with heap := h })
    {R : Flow → Shared → Prop} {Ee Eo : Value → Shared → Prop} (hR : ∀ f s', SP X pins D f s' → R f s') :
    wpAny (model X.prog X.w) (X.A.mark (some (.ref a))) (storeName X.env n (.ref a)) (fun _ s₁ => wpAny (model X.prog X.w) (X.A.mark (some (.ref a))) (execs (b₀ :: suite) X.env) (fun f s₂ =>
      wpAny (model X.prog X.w) X.A (do bindName X.env n .none; unbindBehindTheSuite X.env n pos') (fun _ s₃ => R f s₃) X.xe s₂) Ee s₁) Eo { s with heap := h } := by
  refine store_ok (X := X.suite a ((a, o) :: (X.pn ++ pins))) (v := .ref a) S hN hi (.inl hln) rfl (fun s₁ S₁ => ?_) (.inr hln)
  refine wpAny_mono ((hsu a o cls d (X.pn ++ pins) e2 ⟨_, e3⟩).run [] s₁ _ H _ S₁ w) (fun f s₂ q => ?_) fun _ _ z => z.elim
  have close : ∀ {σ₂ : L2.St} {H₂ : Hp}, Inv (X.suite a ((a, o) :: (X.pn ++ pins))) [] σ₂ H₂ s₂ → (∀ s₃, Inv X pins (σ₂.set i none) H₂ s₃ → R f s₃) → wpAny (model X.prog X.w) X.A (do bindName X.env n .none; unbindBehindTheSuite X.env n pos') (fun _ s₃ => R f s₃) X.xe s₂ :=
    fun S₂ k => gone_ok (S₂.unsuite ok) hN hi hln k
  match f, q with
  | .next, ⟨_, _, S₂, q₂⟩ => exact close S₂ fun _ J => hR _ _ ⟨_, _, J, q₂⟩
  | .brk, ⟨_, _, S₂, q₂⟩ => exact close S₂ fun _ J => hR _ _ ⟨_, _, J, q₂⟩
  | .cont, ⟨_, _, S₂, q₂⟩ => exact close S₂ fun _ J => hR _ _ ⟨_, _, J, q₂⟩
  | .ret _, ⟨_, _, _, S₂, r, q₂⟩ => exact close S₂ fun _ J => hR _ _ ⟨_, _, _, J, r, q₂⟩
/-- the clauses, from the first on -/
theorem Came.through (ok : Cx.Ok X) (hs : X.stack = X.env :: X.outer) (hf : X.env.frame = some X.env.locals) (hN : X.N.Nodup) (tk : Takes X Wout) : ∀ {hds : List ExceptHandler} {l : List (Value × Nat × (Addr → Value → Option Addr → TS))} {h : Heap}, HdsAs X hds l → Came X pins σ H a cls d B sI s h →
    wAsM X.K Wout D l cls d σ H → wpAny (model X.prog X.w) X.A (handleBy (.ref a) X.env hds) (SP X pins D) X.xe { s with heap := h }
  | _, _, _, .nil, c, w => c.on hs hf tk w
  | _, _, h, .cons (x := x) (c := cv) (np := np) hi hln hc hsu r, c, ⟨b, hb, yes, no⟩ => by
    obtain ⟨o, vs, e1, e2, e3, S⟩ := c.in hf
    have name : ∀ {Q E : Value → Shared → Prop}, Q cv { s with heap := h } → wpAny (model X.prog X.w) (X.A.mark (some (.ref a))) (eval (.Name x np) X.env) Q E { s with heap := h } := fun {Q E} q => by
      rcases hc with ⟨g, nd, m | ⟨m, v, nn⟩⟩
      · exact ld_glob (X := X.suite a ((a, o) :: (X.pn ++ pins))) S g m q nd
      · exact ld_blt (X := X.suite a ((a, o) :: (X.pn ++ pins))) S g m v q nn nd
    have of : PySem.W.Looks (model X.prog X.w) h (typeOf (.ref a)) cls := fun _ _ _ _ k q => wpAny_typeOf_ref (k _ _ e1) (by rw [e2.1]; exact q)
    refine wpAny_handleBy_cons (codeAny_handlers_test (name ((PySem.W.exm_one (M := model X.prog X.w) c.here.kIn of hb).here ?_))) (by intro z; cases z)
    match b, yes, no with
    | false, _, no => exact Came.through ok hs hf hN tk r c (no rfl)
    | true, yes, _ =>
      refine codeAny_handlers_suite_as (HandSPX.lands_againZ c.fl fun h' f' u => ?_)
      have c' := c.again f' u
      obtain ⟨o', vs', _, e2', e3', S'⟩ := c'.in hf
      exact c'.go ok hN hf hi hln hsu (yes rfl a c.free) o' vs' e2' e3' S' fun f s' q => by
        cases f <;> exact q
end
theorem ps_try_asM (hs : X.stack = X.env :: X.outer) (hf : X.env.frame = some X.env.locals) (hN : X.N.Nodup) (tk : Takes X Wout)
    (hb : ∀ (W : WX) (pn : List (Addr × Obj)) (xe : Value → Shared → Prop), Takes (X.tr pn xe) W → PassesOwn (model X.prog X.w) X.A X.env xe → PSs (X.tr pn xe) body (tb W))
    (hh : HdsAs X (h₀ :: hds) l) : PS X (.Try body (h₀ :: hds) [] [] pos) (fun D σ H => tb (wAsM X.K Wout D l) D σ H) := by
  refine ⟨fun pins s σ H D I w => wpAny_Try_except ?_⟩
  have ok := I.ok
  refine wpAny_mono ((hb (wAsM X.K Wout D l) (X.pn ++ pins) (fun e s₁ => wpAny (model X.prog X.w) X.A (noteFrame e X.env) (fun _ s₂ => wpAny (model X.prog X.w) X.A (setFlight e none) (fun _ s₃ =>
    wpAny (model X.prog X.w) X.A (handleBy e X.env (h₀ :: hds)) (SP X pins D) X.xe s₃) X.xe s₂) X.xe s₁) ?_ PassesOwn.looking).run [] s σ H D (I.toTry _) w) ?_ fun _ _ z => z
  · rintro u s' ⟨a, B, sI, _, σ', H', cls, d, rfl, J, nb, up, sky, na, os, ag, w'⟩
    exact Sky.land Zc.steady (ok.frames.trans (by rw [hs])) hf (hs ▸ sky) fun h' fl up' => Came.through ok hs hf hN tk hh ⟨J.ofTry ok, nb, na, os, ag, fl, up.trans up'⟩ w'
  · rintro f s' q
    match f, q with
    | .next, ⟨_, _, J, q⟩ => exact wpAny_execs_nil ⟨_, _, J.ofTry ok, q⟩
    | .brk, ⟨_, _, J, q⟩ => exact ⟨_, _, J.ofTry ok, q⟩
    | .cont, ⟨_, _, J, q⟩ => exact ⟨_, _, J.ofTry ok, q⟩
    | .ret _, ⟨_, _, _, J, r, q⟩ => exact ⟨_, _, _, J.ofTry ok, r, q⟩
end
end Jf
set_option Elab.async false
set_option linter.all false
set_option maxRecDepth 100000
set_option maxHeartbeats 4000000
namespace Jf
open PySem PySem.Spec PyProof.Rows L2 HT
/-! ### t[::-1] of a tuple -/
section
variable {prog : Program} {w : World} {A : Around} {E : Value → Shared → Prop} {s : Shared}
theorem rev_adjust (n : Nat) : Builtin.Slice.sliceAdjust none none (-1) (n : Int) = ((n : Int) - 1, -1) := by
  unfold Builtin.Slice.sliceAdjust
  simp
theorem rev_places (n : Nat) : Builtin.Slice.slicePlaces ((n : Int) - 1) (-1) (-1) = n := by
  unfold Builtin.Slice.slicePlaces
  have h1 : ¬ ((-1 : Int) > 0) := by decide
  simp only [h1, if_false]
  by_cases h : (n : Int) - 1 > -1
  · rw [if_pos h, show (- -1 : Int) = 1 by decide, Int.ediv_one]
    omega
  · rw [if_neg h]
    omega
theorem sliceApplied_rev {sl : Addr} {vl vu vs : Value} {n : Nat} {Q : Int × Int × Nat → Shared → Prop} (hs : s.heap.IsSliceOf sl vl vu vs) (pl : IsPart vl none) (pu : IsPart vu none) (ps : IsPart vs (some (-1)))
    (h : Q ((n : Int) - 1, -1, n) s) : wpAny (model prog w) A (Builtin.Slice.sliceApplied (.ref sl) (pure (n : Int))) Q E s := by
  obtain ⟨os, hos, hcs, hds⟩ := id hs
  unfold Builtin.Slice.sliceApplied Builtin.Slice.sliceFields
  refine wpAny_bind (wpAny_bind (wpAny_field hos hds (x := vl) rfl (wpAny_bind (wpAny_field hos hds (x := vu) rfl (wpAny_bind (wpAny_field hos hds (x := vs) rfl (wpAny_pure ?_)))))))
  refine wpAny_bind (slicePart_ ps ?_)
  show wpAny _ _ (if ((-1 : Int) == 0) = true then _ else _) _ _ s
  rw [if_neg (by decide)]
  refine wpAny_bind (slicePart_ pl (wpAny_bind (slicePart_ pu (wpAny_bind (wpAny_pure ?_)))))
  show wpAny _ _ (match Builtin.Slice.sliceAdjust none none (-1) (n : Int) with | (lo, hi) => pure (lo, (-1 : Int), Builtin.Slice.slicePlaces lo hi (-1))) _ _ s
  rw [rev_adjust n]
  show wpAny _ _ (pure ((n : Int) - 1, (-1 : Int), Builtin.Slice.slicePlaces ((n : Int) - 1) (-1) (-1))) _ _ s
  rw [rev_places]
  exact wpAny_pure h
theorem pick_rev (xs : Array Value) : ((List.range xs.size).filterMap fun (m : Nat) => xs[((xs.size : Int) - 1 + (m : Int) * (-1)).toNat]?).toArray = xs.toList.reverse.toArray := by
  have e : (fun (m : Nat) => xs[((xs.size : Int) - 1 + (m : Int) * (-1)).toNat]?) = fun m => xs[xs.size - 1 - m]? := by
    funext m
    have : ((xs.size : Int) - 1 + (m : Int) * (-1)).toNat = xs.size - 1 - m := by omega
    rw [this]
  rw [e]
  have e2 : ((List.range xs.size).filterMap fun m => xs[xs.size - 1 - m]?) = ((List.range xs.size).map fun m => xs.size - 1 - m).filterMap (xs[·]?) := by
    rw [List.filterMap_map]
    rfl
  rw [e2, PySem.W.krv_range, List.filterMap_reverse, PySem.W.krv_all]
theorem getItem_tuple_rev {t sl : Addr} {items : Array Value} {vl vu vs : Value} {Q : Value → Shared → Prop} (ht : IsTup s.heap t items) (hs : s.heap.IsSliceOf sl vl vu vs) (pl : IsPart vl none) (pu : IsPart vu none) (ps : IsPart vs (some (-1)))
    (h : Q (.ref s.heap.objs.size) { s with heap := s.heap.push { cls := .type "tuple", data := .seq items.toList.reverse.toArray } })
    (hsz : items.size ≤ sizeLine) : wpAny (model prog w) A (getItem (.ref t) (.ref sl)) Q E s := by
  have htake : sizeOk (.seq items.toList.reverse.toArray) := by
    show items.toList.reverse.toArray.size ≤ sizeLine
    rw [List.size_toArray, List.length_reverse, Array.length_toList]
    exact hsz
  obtain ⟨os, hos, hcs, hds⟩ := id hs
  have hTs : s.TypeIs (.ref sl) "slice" := ⟨os, hos, hcs⟩
  unfold getItem
  try with_reducible refine wpAny_holding ?_
  first | refine wpAny_bind (wpAny_pure ?_) | skip
  refine wpAny_bind (wpAny_sequenceKey ht.typeIs (by decide) ?_)
  refine wpAny_bind (wpAny_callSpecial?_slot (name := Str.ofString "__getitem__") ht.typeIs PyProof.Rows.slot_tuple_getitem
    (wpAny_call_entry PyProof.Rows.slot_tuple_getitem ht.typeIs entry_tuple_getitem ?_ (args_tuple_getitem _ _)))
  show wpAny _ _ (Builtin.Tuple.tupleItemsOf (.ref t) >>= _) _ _ s
  refine wpAny_bind (tupleItemsOf_ ht ?_)
  refine wpAny_bind (wpAny_typeOf hTs ?_)
  rw [if_pos (by decide)]
  refine wpAny_bind (sliceApplied_rev hs pl pu ps ?_)
  have hno : ¬ ((((items.size : Int) - 1) == 0 && (-1 : Int) == 1 && items.size == items.size) = true) := by
    intro q
    rw [Bool.and_eq_true, Bool.and_eq_true] at q
    exact absurd q.1.2 (by decide)
  show wpAny _ _ (if (((items.size : Int) - 1) == 0 && (-1 : Int) == 1 && items.size == items.size) = true then _ else _) _ _ s
  rw [if_neg hno, pick_rev]
  first
    | exact wpAny_bind (m := Builtin.Tuple.tupleExact _) (wpAny_newObj_type (wpAny_pure ⟨_, rfl, wpAny_pure h⟩) htake)
    | exact wpAny_bind (m := Builtin.Tuple.tupleExact _) (wpAny_newObj_type (wpAny_bind (wpAny_pure (wpAny_pure ⟨_, rfl, wpAny_pure h⟩))) htake)
    | exact wpAny_bind (wpAny_bind (m := Builtin.Tuple.tupleExact _) (wpAny_newObj_type (wpAny_pure (wpAny_pure ⟨_, rfl, wpAny_pure h⟩)) htake))
    | exact wpAny_bind (wpAny_bind (m := Builtin.Tuple.tupleExact _) (wpAny_newObj_type (wpAny_pure ⟨_, rfl, wpAny_pure h⟩) htake))
end
def tRevT (K : PySem.W.Frag) (te : TE) : TE := fun σ H Q => te σ H fun x H1 => ∃ a xs, x = .ref a ∧ SqT K H1 a xs ∧ ∀ p, H1 p = none → Q (.ref p) (upd H1 p (.tup xs.reverse))
theorem pe_revT {X : Cx} {e : Expr} {te : TE} {k : Nat} {p1 p2 p3 pos : Pos} (he : PE X e te) : PE X (.Subscript e (.Slice none none (some (.UnaryOp .USub (.Constant (.int 1) k p1) p2)) p3) pos) (tRevT X.K te) := by
  refine ⟨fun pins s σ H Q I h => ?_⟩
  refine Subscript_ (thn (he.run pins s σ H _ I h) fun v s1 ⟨x, H1, I1, r1, q1⟩ => ?_)
  obtain ⟨a, xs, ex, hx, q⟩ := q1
  subst ex
  cases r1
  have hst : PO X (some (.UnaryOp .USub (.Constant (.int 1) k p1) p2)) (tPart (tUn (rU fun i => .int (-i)) (tC (.int 1)))) := po_some (pe_un un_neg pe_int)
  refine wpAny_Slice (thn (po_none.run pins s1 σ H1 (fun o H2 => o = none ∧ H2 = H1) I1 ⟨rfl, rfl⟩) fun vl s2 ⟨l, H2, I2, pl, el, e2⟩ => ?_)
  subst el e2
  refine thn (po_none.run pins s2 σ H2 (fun o H3 => o = none ∧ H3 = H2) I2 ⟨rfl, rfl⟩) fun vu s3 ⟨u, H3, I3, pu, eu, e3⟩ => ?_
  subst eu e3
  refine thn (hst.run pins s3 σ H3 (fun o H4 => o = some (-1) ∧ H4 = H3) I3 ⟨1, rfl, -1, rfl, rfl, rfl⟩) fun vs s4 ⟨o, H4, I4, ps, eo, e4⟩ => ?_
  subst eo e4
  have I5 : Inv X pins σ H4 { s4 with heap := s4.heap.push { cls := .type "slice", data := .fields #[vl, vu, vs] } } := I4.kept (t' := s4.toks) fun b ob q => Heap.get?_push_of_some _ q
  obtain ⟨its, r, ht, hz⟩ := I5.tuple hx
  have hlen := r.length
  show wpAny (model X.prog X.w) X.A (subscriptTail e (.Slice none none (some (.UnaryOp .USub (.Constant (.int 1) k p1) p2)) p3) (.ref a) (.ref s4.heap.objs.size)) (EP X pins σ Q) X.xe { s4 with heap := s4.heap.push { cls := .type "slice", data := .fields #[vl, vu, vs] } }
  refine tail_any (ops := [.ref a, .ref s4.heap.objs.size]) ht.typeIs (PyProof.Rows.slot_tuple_getitem.lookup) ?_ (by with_unfolding_all rfl)
  refine getItem_tuple_rev ht (Heap.IsSliceOf.new _ vl vu vs) pl pu ps ?_ (by rw [List.size_toArray]; omega)
  refine ⟨.ref _, _, I5.laid (t' := s4.toks) (o := .tup xs.reverse) (fun b ob q => Heap.get?_push_of_some _ q) (Nat.le_refl _) ?_, rfl, q _ (I5.hok.fresh (Nat.le_refl _))⟩
  exact ⟨by rw [List.length_reverse]; exact hz, _, r.reverse, IsTup.new _ _⟩
end Jf
set_option Elab.async false
set_option linter.all false
set_option maxRecDepth 100000
set_option maxHeartbeats 4000000
namespace Jf
open PySem PySem.Spec PyProof.Rows L2 Evl GxR
/-! ### all but tables stays -/
def ExT (H H' : Hp) : Prop := ∀ b o, (∀ ps, o ≠ HO.tbl ps) → H b = some o → H' b = some o
def TBs (Ts : List Addr) (H : Hp) : Prop := ∀ t ∈ Ts, TabG H t
section
variable {K : PySem.W.Frag} {p a : Addr} {Ts : List Addr} {H H1 H2 H' : Hp} {xs : List V} {v : V} {d : PyData} {b : Nat} {q : Rat}
theorem ExT.refl (H : Hp) : ExT H H := fun _ _ _ h => h
theorem ExT.trans (e : ExT H H1) (e' : ExT H1 H2) : ExT H H2 := fun b o n h => e' b o n (e b o n h)
theorem Ex.t (e : Ex H H') : ExT H H' := fun b o _ h => e b o h
theorem ExT.l (e : ExT H H') (h : H a = some (.lst xs)) : H' a = some (.lst xs) := e a _ (fun _ z => nomatch z) h
theorem ExT.k {kvs : List (Key × V)} (e : ExT H H') (h : H a = some (.dK kvs)) : H' a = some (.dK kvs) := e a _ (fun _ z => nomatch z) h
theorem ExT.sl (e : ExT H H') (h : SqL K H a xs) : SqL K H' a xs := by
  rcases h with (h | ⟨o, h⟩) | h
  · exact .inl (.inl (e a _ (fun _ z => nomatch z) h))
  · exact .inl (.inr ⟨o, e a _ (fun _ z => nomatch z) h⟩)
  · exact .inr h
theorem ExT.st (e : ExT H H') (h : SqT K H a xs) : SqT K H' a xs := by
  rcases h with (h | ⟨o, h⟩) | h
  · exact .inl (.inl (e a _ (fun _ z => nomatch z) h))
  · exact .inl (.inr ⟨o, e a _ (fun _ z => nomatch z) h⟩)
  · exact .inr h
end
section
variable {K : PySem.W.Frag} {p : Addr} {H H' : Hp}
mutual
theorem Dq.xt (e : ExT H H') : ∀ (d : PyData) (v : V), Dq K p H v d → Dq K p H' v d
  | _, _, .non => .non
  | _, _, .bl b => .bl b
  | _, _, .int i => .int i
  | _, _, .str x => .str x
  | _, _, .lst n m h hs => .lst n m (ExT.l e h) (DqAll.xt e _ _ hs)
  | _, _, .tup h hs => .tup (ExT.st e h) (DqAll.xt e _ _ hs)
  | _, _, .emp h => .emp (ExT.k e h)
theorem DqAll.xt (e : ExT H H') : ∀ (ds : List PyData) (vs : List V), DqAll K p H vs ds → DqAll K p H' vs ds
  | _, _, .nil => .nil
  | _, _, .cons h hs => .cons (Dq.xt e _ _ h) (DqAll.xt e _ _ hs)
end
end
section
variable {K : PySem.W.Frag} {p a : Addr} {Ts : List Addr} {H H1 H2 H' : Hp} {xs : List V} {v : V} {d : PyData} {b : Nat} {q : Rat}
theorem Fr.xt (e : ExT H H') (h : Fr K b q v H) : Fr K b q v H' := by
  obtain ⟨a, rfl, h, x⟩ := h
  exact ⟨a, rfl, e.st h, x⟩
theorem TBs.ex (h : TBs Ts H) (e : Ex H H') : TBs Ts H' := fun t ht => by
  obtain ⟨ps, h1, h2⟩ := h t ht
  exact ⟨ps, e _ _ h1, h2⟩
/-- a list's change leaves the tables -/
theorem TBs.upd {xs ys : List V} (h : TBs Ts H) (hp : H p = some (.lst xs)) (e : ∀ b o, b ≠ p → H b = some o → H' b = some o) : TBs Ts H' := fun t ht => by
  obtain ⟨ps, h1, h2⟩ := h t ht
  exact ⟨ps, e _ _ (by rintro rfl; rw [hp] at h1; cases h1) h1, h2⟩
theorem Tabd.t {T : Addr} (h : TabG H T) (t : Tabbed T H H') : ExT H H' := fun b o n e => by
  have hb : b ≠ T := by
    rintro rfl
    obtain ⟨ps, h1, _⟩ := h
    rw [e] at h1
    exact n ps (Option.some.inj h1)
  rw [t.2 b hb]
  exact e
theorem TBs.tb {T : Addr} (h : TBs Ts H) (t : Tabbed T H H') : TBs Ts H' := fun t' ht => by
  by_cases e : t' = T
  · subst e
    exact t.1
  · obtain ⟨ps, h1, h2⟩ := h t' ht
    exact ⟨ps, by rw [t.2 t' e]; exact h1, h2⟩
end
/-- a list and another: a new list, not sys.modules -/
def rCatN : R2 := fun x y H Q => ∃ l b xs zs, x = .ref l ∧ y = .ref b ∧ H l = some (.lst xs) ∧ H b = some (.lst zs) ∧ xs.length + zs.length ≤ sizeLine ∧ ∀ p, H p = none → p ≠ sysModules → Q (.ref p) (upd H p (.lst (xs ++ zs)))
theorem op_catN {X : Cx} : OpR X (binaryOp .Add) rCatN := by
  intro pins s σ H x y v u Q I rx ry h
  obtain ⟨l, b, xs, zs, rfl, rfl, hH, hB, hz, q⟩ := h
  cases rx
  cases ry
  obtain ⟨z, its, n, r, hl, e⟩ := I.lstM hH
  obtain ⟨z2, its2, n2, r2, hl2, e2⟩ := I.lstM hB
  refine PySem.P.add_list e e2 ?_ (by rw [List.size_toArray, List.size_toArray]; omega)
  have ea : its.toArray ++ its2.toArray = (its ++ its2).toArray := by simp
  rw [ea]
  exact ⟨.ref _, _, I.lnew (t' := s.toks) (r.append r2) (by rw [List.length_append]; omega), rfl, q _ I.fresh (Nat.ne_of_gt I.big)⟩
/-- a field of the error that a suite holds, whichever of our classes it is of -/
def tXfE (K : PySem.W.Frag) (a : Addr) (cls : Value) (d : Option Addr) (f : Str) (te : TE) : TE := fun σ H Q => te σ H fun x H1 => x = .ref a ∧ ∃ (C dd : Addr) (fs : List (Str × V)) (v : V), cls = .ref C ∧ XfC K C ∧ PySem.W.findIn K (.ref C) f = some none ∧ d = some dd ∧ H1 dd = some (.xd fs) ∧ fs.lookup f = some v ∧ Q v H1
theorem pe_xfE {X : Cx} {a : Addr} {oe : Obj} {cls : Value} {d : Option Addr} {pn : List (Addr × Obj)} {e : Expr} {te : TE} {pos : Pos} {n : Str}
    (hz : Zc cls d oe) (hf : ∃ vs, oe.data = .fields vs) (he : PE (X.suite a ((a, oe) :: pn)) e te) (hb : attributeBase e n X.env (eval e X.env) = eval e X.env := by rfl) :
    PE (X.suite a ((a, oe) :: pn)) (.Attribute e n pos) (tXfE X.K a cls d n te) := by
  refine ⟨fun pins s σ H Q I h => ?_⟩
  refine attr_of hb (thn (he.run pins s σ H _ I h) fun u s1 hh => ?_)
  obtain ⟨x, H1, I1, rx, ex, C, dd, fs, v, ec, T, hno, ed, ea, l, q⟩ := hh
  subst ex
  obtain rfl : u = Value.ref a := rx
  subst ec
  subst ed
  have ha := (I1.pin (a, oe) (List.mem_append_left _ List.mem_cons_self)).1
  obtain ⟨vs, hd⟩ := hf
  have hx : ObjOk X.prog X.w H1 s1.heap dd (.xd fs) := I1.hok dd _ ea
  obtain ⟨mA, hns, hr⟩ := hx
  obtain ⟨od, ho, hl⟩ := lookIn_ns hns
  obtain ⟨u, hu, ru⟩ := RelO.some_of (v := v) (o := mA n) (by rw [← l]; exact hr n)
  have J : PySem.W.InstAt s1.heap a oe C (some od) := ⟨ha, hz.1, by unfold PySem.W.notCls; rw [hd] <;> rfl, by rw [hz.2]; exact ho⟩
  exact HandSPX.exc_get I1.kIn J T.ga T.gg T.exC (PySem.W.findObj_own T.hdC hno rfl (by rw [hl, hu])) (handed_of ru) ⟨v, H1, I1.tok _, ru, q⟩
end Jf
set_option Elab.async false
set_option linter.all false
set_option maxRecDepth 100000
set_option maxHeartbeats 4000000
/-! ### enumerate(x, start=c) of a list -/
namespace PySem
open PyProof.Rows
section
variable {M : Model} {A : Around} {E : Value → Shared → Prop} {s : Shared} {env : Env}
/-- a built-in class called with keywords -/
theorem jk_callWith {pos : Pos} {T : String} {e : Expr} {rest : List Expr} {kws : List Keyword} {Q : Value → Shared → Prop}
    (h : wpAny M A (spliced (backTo pos (starEach (e :: rest) env))) (fun vs s₁ => wpAny M A (evalAll ((backToKw pos (keywordEach kws env)).map (·.2)))
      (fun kvs s₂ => wpAny M A (call (.type T) vs (((backToKw pos (keywordEach kws env)).filterMap (·.1)).zip kvs)) Q E s₂) E s₁) E s)
    (he : backTo pos (starEach (e :: rest) env) = (false, eval e env) :: backTo pos (starEach rest env) := by rfl)
    (hplain : (backTo pos (starEach (e :: rest) env)).any (·.1) = false := by rfl)
    (hall : (backToKw pos (keywordEach kws env)).all (·.1.isSome) = true := by rfl)
    (hkw : (backToKw pos (keywordEach kws env)).any (·.1.isNone) = false := by rfl) :
    wpAny M A (callWith pos (.type T) [] (backTo pos (starEach (e :: rest) env)) (backToKw pos (keywordEach kws env))) Q E s := by
  unfold callWith
  have h0 : wpAny M A (evalArgs (.type T) true (backTo pos (starEach (e :: rest) env)) (backToKw pos (keywordEach kws env))) (fun a s₁ => wpAny M A (call (.type T) ([] ++ a.pos) a.kw) Q E s₁) E s := by
    rw [he] at h ⊢
    exact evalArgs_kwB hall h
  refine wpAny_bind (wpAny_holding (wpAny_mono h0 (fun a s₁ h₁ => wpAny_bind (wpAny_standAt ?_)) fun _ _ x => x))
  simp only [hplain, hkw, Bool.or_false]
  refine wpAny_bind (wpAny_pure ?_)
  exact wpAny_bind (wpAny_mono h₁ (fun r s₂ hr => wpAny_bind (wpAny_holding (wpAny_point (wpAny_pure hr)))) fun _ _ x => x)
end
section
variable {prog : Program} {w : World} {A : Around} {E : Value → Shared → Prop} {s : Shared} {e it t : Addr} {i : Nat} {m : Int} {items : Array Value} {x old : Value}
theorem jk_enumE {Q : Option Value → Shared → Prop} (hh : A.handled = none) (he : IsEnum s.heap e it m old) (a : s.heap.IsListIter it t i) (b : s.heap.IsList t items) (hx : items[i]? = none) (k : ∀ h', Heap.ExtBut it s.heap h' → Q none { s with heap := h' }) :
    wpAny (model prog w) A (pyNext (.ref e)) Q E s := by
  have T : s.TypeIs (.ref e) "enumerate" := ⟨_, he, rfl⟩
  unfold pyNext
  refine wpAny_bind (wpAny_attempt (wpAny_callSpecial?_slot (name := Str.ofString "__next__") T F.slot_enumerate_next (wpAny_call_entry F.slot_enumerate_next T F.entry_enumerate_next
    (wpAny_bind (m := field (.ref e) 2) (wpAny_field he rfl (x := .ref it) rfl (wpAny_bind (wpAny_nextOf_list_end hh a b hx fun h' y g ⟨o, g1, g2⟩ => ?_)))) (F.args_enumerate_next_1 _))))
  exact wpAny_bind (wpAny_isInstance (T := "StopIteration") (b := true) ⟨o, g1, g2⟩ isSubtype_stop (wpAny_pure (k _ g)))
end
end PySem
namespace Jf
open PySem PySem.Spec PyProof.Rows L2 Evl
/-- the list at a, each item in a new pair with its number, counted from c -/
def IteK (K : PySem.W.Frag) (a : Addr) (c : Int) : It :=
  ⟨fun i H => ∃ (xs : List V) (x : V), SqL K H a xs ∧ xs[i]? = some x, fun i H v H' => ∃ T x, v = .ref T ∧ H T = none ∧ H' = upd H T (.tup [.int (c + (i : Nat)), x]) ∧ ∀ xs, SqL K H a xs → xs[i]? = some x, fun i H => ∃ xs : List V, SqL K H a xs ∧ xs.length ≤ i⟩
theorem turn_enumK {P : Program} {w : World} {K : PySem.W.Frag} {elts : List Expr} {kk : Nat} {tpos : Pos} (a e it : Addr) (c : Int) :
    Turn P w K (.Tuple elts kk tpos) (IteK K a c) [e, it] e (fun i h => (∃ old, IsEnum h e it (c + ((i : Nat) : Int)) old) ∧ h.IsListIter it a i ∧ e ≠ it) where
  mem := by simp
  obj := fun i h st b hb => by
    obtain ⟨⟨old, he⟩, ⟨o, ho, hc, hd⟩, _⟩ := st
    have e' : b = e ∨ b = it := by simpa using hb
    rcases e' with z | z
    · rw [z]; exact ⟨_, he, fun v q => nomatch q⟩
    · rw [z]; exact ⟨o, ho, fun v q => by rw [hd] at q; cases q⟩
  keep := fun i h h' st k => let ⟨⟨old, he⟩, hi, hne⟩ := st; ⟨⟨old, k e (by simp) _ he⟩, hi.at fun o q => k it (by simp) o q, hne⟩
  item := by
    intro X hP hw hK hc i pins s σ H E I hf st hg
    subst hP hw hK
    obtain ⟨⟨old, he⟩, hit, hne⟩ := st
    obtain ⟨xs, x, hq, hx⟩ := hg
    obtain ⟨its, rv, p, hz⟩ := I.list hq
    obtain ⟨u, hu, ru⟩ := rv.get hx
    have hel : e < s.heap.objs.size := Heap.lt_size he
    have hil : it < s.heap.objs.size := by obtain ⟨_, q, _⟩ := hit; exact Heap.lt_size q
    have ea : e ≠ a := by
      rintro rfl
      obtain ⟨o, h1, h2, _⟩ := p.isList
      rw [he] at h1
      cases h1
      exact absurd h2 (by simp)
    have ia : a ≠ it := by
      rintro rfl
      obtain ⟨o, h1, h2, _⟩ := p.isList
      obtain ⟨o', g1, g2, _⟩ := hit
      rw [h1] at g1
      cases g1
      rw [h2] at g2
      exact absurd g2 (by simp)
    have hlen := rv.length
    have hil2 : i < its.toArray.size := by
      have := (List.getElem?_eq_some_iff.mp hu).1
      simpa using this
    refine wpAny_pyNext_enum_itemC (Draws.list (prog := X.prog) (w := X.w) (A := X.A.in1) (I.ok.hd hc) it a ia its.toArray) he ⟨hit, p.isList⟩ hil2 hne (by simp [hne, ea]) fun x' h' tk hP ho hit' hT hsz hk => ?_
    obtain rfl : u = x' := by
      have hu' : its.toArray[i]? = some u := by simpa using hu
      have := hu'.symm.trans hP
      exact Option.some.inj this
    refine ⟨_, rfl, wpAny_letOwnedTupleGo_enum (s := { s with heap := h', toks := tk + 1 }) ho fun h'' he' sb => ?_⟩
    have hT2 : h''.get? s.heap.objs.size = some { cls := .type "tuple", data := .seq #[.int (c + (i : Nat)) tk, u] } := (sb.2 _ (Nat.ne_of_gt hel)).trans hT
    have new : ObjOk X.prog X.w (upd H s.heap.objs.size (.tup [.int (c + (i : Nat)), x])) h'' s.heap.objs.size (.tup [.int (c + (i : Nat)), x]) :=
      ⟨by show 2 ≤ sizeLine; decide, [.int (c + (i : Nat)) tk, u], .cons ⟨_, rfl⟩ (.cons ru .nil), ⟨_, hT2, rfl, _, rfl⟩⟩
    have I1 : Inv X pins σ (upd H s.heap.objs.size (.tup [.int (c + (i : Nat)), x])) { s with heap := h'', toks := tk + 1 } :=
      I.turnedNew (ch := [e, it]) (fun b ob hb q => (sb.2 b (fun z => hb (by simp [z]))).trans (hk b ob (fun z => hb (by simp [z])) (fun z => hb (by simp [z])) q)) hf (Nat.le_refl _) new
    refine ⟨.ref s.heap.objs.size, _, I1, rfl, ⟨_, x, rfl, I.hok.fresh (Nat.le_refl _), rfl, fun ys hy => by rw [I.list_inj hy hq]; exact hx⟩, ⟨⟨u, ?_⟩, hit'.1.at fun o q => (sb.2 it (Ne.symm hne)).trans q, hne⟩, fun b hb => ?_⟩
    · have e1 : c + ((i + 1 : Nat) : Int) = c + (i : Int) + 1 := by omega
      rw [e1]; exact he'
    · have hb' : b < s.heap.objs.size := by
        have e' : b = e ∨ b = it := by simpa using hb
        rcases e' with z | z
        · rw [z]; exact hel
        · rw [z]; exact hil
      rw [upd_ne (Nat.ne_of_lt hb')]
      exact (hf b hb).1
  done := by
    intro X hP hw hK hc i pins s σ H E I hf st hg
    subst hP hw hK
    obtain ⟨⟨old, he⟩, hit, hne⟩ := st
    obtain ⟨xs, hq, hx⟩ := hg
    obtain ⟨its, rv, p, hz⟩ := I.list hq
    obtain ⟨f0, f1, f2, f3, f4, f5⟩ := hf it (by simp)
    have hl := rv.length
    exact jk_enumE (I.ok.hd hc) he hit p.isList (by simp; omega) fun h' eb => ⟨rfl, I.turned (t' := s.toks) (fun b o hb q => eb b o hb q) f0 f1 f3 f4 f5⟩
  self := fun A i s Q E st h => let ⟨⟨_, he⟩, _⟩ := st; wpAny_pyIter_enum he h
def iEnumK (K : PySem.W.Frag) (ta tk : TA) : TI := fun σ H R => ta σ H fun vs H1 => tk σ H1 fun zs H2 => ∃ a xs c, vs = [.ref a] ∧ zs = [.int c] ∧ -(2 ^ 63) ≤ c ∧ c < 2 ^ 63 ∧ SqL K H2 a xs ∧ R (IteK K a c) H2
theorem pi_enumK {X : Cx} {e : Expr} {kws : List Keyword} {ta tk : TA} {p pos tpos : Pos} {elts : List Expr} {kk : Nat} (hg : Gl X "enumerate") (hm : X.mg "enumerate" = none) (ha : PA X [e] ta) (hk : PK X kws tk)
    (he : backTo pos (starEach [e] X.env) = (false, eval e X.env) :: backTo pos (starEach [] X.env) := by rfl) (hpl : (backTo pos (starEach [e] X.env)).any (·.1) = false := by rfl)
    (hall : (backToKw pos (keywordEach kws X.env)).all (·.1.isSome) = true := by rfl) (hnone : (backToKw pos (keywordEach kws X.env)).any (·.1.isNone) = false := by rfl) (hks : (backToKw pos (keywordEach kws X.env)).filterMap (·.1) = [Str.ofString "start"] := by rfl) :
    PI X (.Tuple elts kk tpos) (.Call (.Name "enumerate" p) [e] kws pos) (iEnumK X.K ta tk) := by
  refine ⟨fun pins s σ H R I h => ?_⟩
  refine wpAny_Call_Name_kw (ld_blt I hg hm boot_enumerate ?_)
  refine jk_callWith (thn (ha.run pos pins s σ H _ I h) fun us s1 ⟨vs, H1, I1, r1, q1⟩ => thn (hk.run pos pins s1 σ H1 _ I1 q1) fun ws s2 ⟨zs, H2, I2, r2, q2⟩ => ?_) he hpl hall hnone
  rw [hks]
  obtain ⟨a, xs, c, ex, ez, c0, c1, hq, q⟩ := q2
  subst ex ez
  obtain ⟨u, rfl, ru⟩ := vals1 r1
  obtain ⟨y, rfl, ry⟩ := vals1 r2
  cases ru
  obtain ⟨tc, rfl⟩ := ry
  obtain ⟨its, rv, p', hz⟩ := I2.list hq
  show wpAny _ _ (call (.type "enumerate") [.ref a] [(Str.ofString "start", .int c tc)]) _ _ _
  refine enum_begins_start (begins_list a its.toArray) p'.isList c0 c1 fun h' hE hit hsz hkp => wpAny_pyIter_enum hE ?_
  have I3 : Inv X pins σ H2 { s2 with heap := h' } := I2.kept (t' := s2.toks) hkp
  refine ⟨s2.heap.objs.size + 1, [s2.heap.objs.size + 1, s2.heap.objs.size], _, _, H2, rfl, I3, turn_enumK a (s2.heap.objs.size + 1) s2.heap.objs.size c, ⟨⟨.none, by
    rw [show c + ((0 : Nat) : Int) = c by omega]
    exact hE⟩, ⟨_, hit, rfl, rfl⟩, Nat.succ_ne_self _⟩, fun b hb => ?_, q⟩
  have e' : b = s2.heap.objs.size + 1 ∨ b = s2.heap.objs.size := by simpa using hb
  have hle : s2.heap.objs.size ≤ b := by
    rcases e' with z | z
    · rw [z]; exact Nat.le_add_right _ _
    · rw [z]; exact Nat.le_refl _
  exact I2.fpOk hle (I2.hok.fresh hle)
theorem walk_enumK {K : PySem.W.Frag} {a : Addr} {c : Int} {xs : List V} : Walk (IteK K a c) xs.length (fun H => SqL K H a xs) (YPair (fun i => some (.int (c + (i : Nat)))) (fun i => xs[i]?)) := by
  refine ⟨fun i _ hi q => ⟨xs, xs[i], q, by simp [hi]⟩, fun _ q => ⟨xs, q, Nat.le_refl _⟩, fun i H v H' _ q y => ?_⟩
  obtain ⟨T, x, h1, h2, h3, h4⟩ := y
  exact ⟨T, .int (c + (i : Nat)), x, h1, h2, h3, rfl, h4 xs q⟩
end Jf
set_option Elab.async false
set_option linter.all false
set_option maxRecDepth 100000
set_option maxHeartbeats 4000000
namespace Jf
open PySem PySem.Spec PyProof.Rows L2 Evl
/-! ### the text -/
def topS (i : Nat) : Stmt := PySem.Challenge.pw_onenumber_k62_projects.main.body.getD i (.Pass ⟨0, 0, 0, 0⟩)
abbrev s_is_whole : Stmt := topS 8
abbrev n_is_whole : List Str := ["value"]
abbrev s_is_fraction : Stmt := topS 9
abbrev n_is_fraction : List Str := ["value", "top", "bottom"]
abbrev s_is_proper : Stmt := topS 10
abbrev n_is_proper : List Str := ["value"]
abbrev s_lowest : Stmt := topS 11
abbrev n_lowest : List Str := ["top", "bottom", "common"]
abbrev s_add : Stmt := topS 12
abbrev n_add : List Str := ["one", "other"]
abbrev s_multiply : Stmt := topS 13
abbrev n_multiply : List Str := ["one", "other"]
abbrev s_divide : Stmt := topS 14
abbrev n_divide : List Str := ["one", "other"]
abbrev s_is_below : Stmt := topS 15
abbrev n_is_below : List Str := ["one", "other"]
abbrev s_greatest : Stmt := topS 16
abbrev n_greatest : List Str := ["fractions", "best", "amount"]
abbrev s_is_project : Stmt := topS 22
abbrev n_is_project : List Str := ["value", "entry"]
abbrev s_is_yard : Stmt := topS 23
abbrev n_is_yard : List Str := ["value", "projects", "entry", "project"]
abbrev s_require_share_and_project : Stmt := topS 24
abbrev n_require_share_and_project : List Str := ["share", "project"]
abbrev s_term_of_project : Stmt := topS 25
abbrev n_term_of_project : List Str := ["share", "project", "term", "pay"]
abbrev s_paid_in_all : Stmt := topS 26
abbrev n_paid_in_all : List Str := ["share", "pays", "total", "pay"]
abbrev s_wage : Stmt := topS 27
abbrev n_wage : List Str := ["share", "days", "_"]
abbrev s_project_term : Stmt := topS 28
abbrev n_project_term : List Str := ["share", "project"]
abbrev s_falling : Stmt := topS 29
abbrev n_falling : List Str := ["share", "project", "found", "rest", "wages", "best", "longest", "length", "amount"]
abbrev s__law_spread : Stmt := topS 31
abbrev n__law_spread : List Str := ["_law_cell", "_law_at", "_law_primes", "_law_mixed", "_law_one_here", "_law_rest", "_law_two", "_law_three"]
abbrev s__law_open : Stmt := topS 32
abbrev n__law_open : List Str := ["_law_script", "_law_cells", "_law_k", "_law_cell"]
abbrev s__law_take : Stmt := topS 33
abbrev n__law_take : List Str := ["_law_pen", "_law_many", "_law_at", "_law_cell", "_law_found"]
abbrev s__law_anew : Stmt := topS 34
abbrev n__law_anew : List Str := ["_law_pen"]
abbrev s__law_one : Stmt := topS 35
abbrev n__law_one : List Str := ["_law_pen", "_law_some"]
abbrev s__law_divisor : Stmt := topS 36
abbrev n__law_divisor : List Str := ["_law_one_here", "_law_other"]
abbrev s__law_frac : Stmt := topS 37
abbrev n__law_frac : List Str := ["_law_top", "_law_bottom", "_law_most"]
abbrev s__law_add : Stmt := topS 38
abbrev n__law_add : List Str := ["_law_one_here", "_law_other"]
abbrev s__law_mul : Stmt := topS 39
abbrev n__law_mul : List Str := ["_law_one_here", "_law_other"]
abbrev s__law_is_less : Stmt := topS 40
abbrev n__law_is_less : List Str := ["_law_one_here", "_law_other"]
abbrev s__law_same : Stmt := topS 41
abbrev n__law_same : List Str := ["_law_one_here", "_law_other"]
abbrev s__law_share : Stmt := topS 42
abbrev n__law_share : List Str := ["_law_pen", "_law_bottom"]
abbrev s__law_day_pay : Stmt := topS 43
abbrev n__law_day_pay : List Str := ["_law_pen"]
abbrev s__law_project : Stmt := topS 44
abbrev n__law_project : List Str := ["_law_pen", "_law_many", "_law_day"]
abbrev s__law_run_worth : Stmt := topS 45
abbrev n__law_run_worth : List Str := ["_law_part", "_law_row", "_law_found", "_law_power", "_law_pay"]
abbrev s__law_over : Stmt := topS 46
abbrev n__law_over : List Str := ["_law_one_here", "_law_other"]
abbrev s__law_falling : Stmt := topS 47
abbrev n__law_falling : List Str := ["_law_part", "_law_project_here", "_law_found", "_law_ones", "_law_lap", "_law_rest", "_law_most", "_law_last", "_law_many", "_law_wage", "_law_day"]
abbrev s__law_project_term : Stmt := topS 48
abbrev n__law_project_term : List Str := ["_law_part", "_law_project_here", "_law_found", "_law_pay"]
abbrev s__law_told : Stmt := topS 49
abbrev n__law_told : List Str := ["_law_call", "_law_part", "_law_project_here", "_law_got", "error", "_law_found"]
abbrev s__law_bent : Stmt := topS 50
abbrev n__law_bent : List Str := ["_law_pen", "_law_some", "_law_at", "_law_odd", "_law_bent_here"]
abbrev s__law_yards : Stmt := topS 51
abbrev n__law_yards : List Str := ["_law_pen", "_law_part", "_law_project_here", "_law_low", "_law_few", "_law_value", "_law_due", "_law_eight", "_law_five", "_law_call"]
abbrev s_law : Stmt := topS 52
abbrev n_law : List Str := ["_law_script", "_law_pen", "_law_time", "_law_part", "_law_project_here", "_law_call", "_law_due", "_law_got", "_law_at", "_law_bent_here"]
abbrev s_i_MixError : Stmt := inClass (topS 2) 0
theorem sc_i_MixError : FnScope ["self", "value"] ["self", "value"] (defScope s_i_MixError) := ⟨rfl, rfl, rfl, by decide +kernel, rfl, by decide +kernel, by decide +kernel⟩
abbrev s_i_BadProject : Stmt := inClass (topS 3) 0
theorem sc_i_BadProject : FnScope ["self", "value"] ["self", "value"] (defScope s_i_BadProject) := ⟨rfl, rfl, rfl, by decide +kernel, rfl, by decide +kernel, by decide +kernel⟩
abbrev s_i_BadShare : Stmt := inClass (topS 4) 0
theorem sc_i_BadShare : FnScope ["self", "value"] ["self", "value"] (defScope s_i_BadShare) := ⟨rfl, rfl, rfl, by decide +kernel, rfl, by decide +kernel, by decide +kernel⟩
theorem sc_is_whole : FnScope ["value"] ["value"] (defScope s_is_whole) := ⟨rfl, rfl, rfl, by decide +kernel, rfl, by decide +kernel, by decide +kernel⟩
theorem sc_is_fraction : FnScope ["value", "top", "bottom"] ["value"] (defScope s_is_fraction) := ⟨rfl, rfl, rfl, by decide +kernel, rfl, by decide +kernel, by decide +kernel⟩
theorem sc_is_proper : FnScope ["value"] ["value"] (defScope s_is_proper) := ⟨rfl, rfl, rfl, by decide +kernel, rfl, by decide +kernel, by decide +kernel⟩
theorem sc_lowest : FnScope ["top", "bottom", "common"] ["top", "bottom"] (defScope s_lowest) := ⟨rfl, rfl, rfl, by decide +kernel, rfl, by decide +kernel, by decide +kernel⟩
theorem sc_add : FnScope ["one", "other"] ["one", "other"] (defScope s_add) := ⟨rfl, rfl, rfl, by decide +kernel, rfl, by decide +kernel, by decide +kernel⟩
theorem sc_multiply : FnScope ["one", "other"] ["one", "other"] (defScope s_multiply) := ⟨rfl, rfl, rfl, by decide +kernel, rfl, by decide +kernel, by decide +kernel⟩
theorem sc_divide : FnScope ["one", "other"] ["one", "other"] (defScope s_divide) := ⟨rfl, rfl, rfl, by decide +kernel, rfl, by decide +kernel, by decide +kernel⟩
theorem sc_is_below : FnScope ["one", "other"] ["one", "other"] (defScope s_is_below) := ⟨rfl, rfl, rfl, by decide +kernel, rfl, by decide +kernel, by decide +kernel⟩
theorem sc_greatest : FnScope ["fractions", "best", "amount"] ["fractions"] (defScope s_greatest) := ⟨rfl, rfl, rfl, by decide +kernel, rfl, by decide +kernel, by decide +kernel⟩
theorem sc_is_project : FnScope ["value", "entry"] ["value"] (defScope s_is_project) := ⟨rfl, rfl, rfl, by decide +kernel, rfl, by decide +kernel, by decide +kernel⟩
theorem sc_is_yard : FnScope ["value", "projects", "entry", "project"] ["value"] (defScope s_is_yard) := ⟨rfl, rfl, rfl, by decide +kernel, rfl, by decide +kernel, by decide +kernel⟩
theorem sc_require_share_and_project : FnScope ["share", "project"] ["share", "project"] (defScope s_require_share_and_project) := ⟨rfl, rfl, rfl, by decide +kernel, rfl, by decide +kernel, by decide +kernel⟩
theorem sc_term_of_project : FnScope ["share", "project", "term", "pay"] ["share", "project"] (defScope s_term_of_project) := ⟨rfl, rfl, rfl, by decide +kernel, rfl, by decide +kernel, by decide +kernel⟩
theorem sc_paid_in_all : FnScope ["share", "pays", "total", "pay"] ["share", "pays"] (defScope s_paid_in_all) := ⟨rfl, rfl, rfl, by decide +kernel, rfl, by decide +kernel, by decide +kernel⟩
theorem sc_wage : FnScope ["share", "days", "_"] ["share", "days"] (defScope s_wage) := ⟨rfl, rfl, rfl, by decide +kernel, rfl, by decide +kernel, by decide +kernel⟩
theorem sc_project_term : FnScope ["share", "project"] ["share", "project"] (defScope s_project_term) := ⟨rfl, rfl, rfl, by decide +kernel, rfl, by decide +kernel, by decide +kernel⟩
theorem sc_falling : FnScope ["share", "project", "found", "rest", "wages", "best", "longest", "length", "amount"] ["share", "project"] (defScope s_falling) := ⟨rfl, rfl, rfl, by decide +kernel, rfl, by decide +kernel, by decide +kernel⟩
theorem sc__law_spread : FnScope ["_law_cell", "_law_at", "_law_primes", "_law_mixed", "_law_one_here", "_law_rest", "_law_two", "_law_three"] ["_law_cell", "_law_at"] (defScope s__law_spread) := ⟨rfl, rfl, rfl, by decide +kernel, rfl, by decide +kernel, by decide +kernel⟩
theorem sc__law_open : FnScope ["_law_script", "_law_cells", "_law_k", "_law_cell"] ["_law_script"] (defScope s__law_open) := ⟨rfl, rfl, rfl, by decide +kernel, rfl, by decide +kernel, by decide +kernel⟩
theorem sc__law_take : FnScope ["_law_pen", "_law_many", "_law_at", "_law_cell", "_law_found"] ["_law_pen", "_law_many"] (defScope s__law_take) := ⟨rfl, rfl, rfl, by decide +kernel, rfl, by decide +kernel, by decide +kernel⟩
theorem sc__law_anew : FnScope ["_law_pen"] ["_law_pen"] (defScope s__law_anew) := ⟨rfl, rfl, rfl, by decide +kernel, rfl, by decide +kernel, by decide +kernel⟩
theorem sc__law_one : FnScope ["_law_pen", "_law_some"] ["_law_pen", "_law_some"] (defScope s__law_one) := ⟨rfl, rfl, rfl, by decide +kernel, rfl, by decide +kernel, by decide +kernel⟩
theorem sc__law_divisor : FnScope ["_law_one_here", "_law_other"] ["_law_one_here", "_law_other"] (defScope s__law_divisor) := ⟨rfl, rfl, rfl, by decide +kernel, rfl, by decide +kernel, by decide +kernel⟩
theorem sc__law_frac : FnScope ["_law_top", "_law_bottom", "_law_most"] ["_law_top", "_law_bottom"] (defScope s__law_frac) := ⟨rfl, rfl, rfl, by decide +kernel, rfl, by decide +kernel, by decide +kernel⟩
theorem sc__law_add : FnScope ["_law_one_here", "_law_other"] ["_law_one_here", "_law_other"] (defScope s__law_add) := ⟨rfl, rfl, rfl, by decide +kernel, rfl, by decide +kernel, by decide +kernel⟩
theorem sc__law_mul : FnScope ["_law_one_here", "_law_other"] ["_law_one_here", "_law_other"] (defScope s__law_mul) := ⟨rfl, rfl, rfl, by decide +kernel, rfl, by decide +kernel, by decide +kernel⟩
theorem sc__law_is_less : FnScope ["_law_one_here", "_law_other"] ["_law_one_here", "_law_other"] (defScope s__law_is_less) := ⟨rfl, rfl, rfl, by decide +kernel, rfl, by decide +kernel, by decide +kernel⟩
theorem sc__law_same : FnScope ["_law_one_here", "_law_other"] ["_law_one_here", "_law_other"] (defScope s__law_same) := ⟨rfl, rfl, rfl, by decide +kernel, rfl, by decide +kernel, by decide +kernel⟩
theorem sc__law_share : FnScope ["_law_pen", "_law_bottom"] ["_law_pen"] (defScope s__law_share) := ⟨rfl, rfl, rfl, by decide +kernel, rfl, by decide +kernel, by decide +kernel⟩
theorem sc__law_day_pay : FnScope ["_law_pen"] ["_law_pen"] (defScope s__law_day_pay) := ⟨rfl, rfl, rfl, by decide +kernel, rfl, by decide +kernel, by decide +kernel⟩
theorem sc__law_project : FnScope ["_law_pen", "_law_many", "_law_day"] ["_law_pen", "_law_many"] (defScope s__law_project) := ⟨rfl, rfl, rfl, by decide +kernel, rfl, by decide +kernel, by decide +kernel⟩
theorem sc__law_run_worth : FnScope ["_law_part", "_law_row", "_law_found", "_law_power", "_law_pay"] ["_law_part", "_law_row"] (defScope s__law_run_worth) := ⟨rfl, rfl, rfl, by decide +kernel, rfl, by decide +kernel, by decide +kernel⟩
theorem sc__law_over : FnScope ["_law_one_here", "_law_other"] ["_law_one_here", "_law_other"] (defScope s__law_over) := ⟨rfl, rfl, rfl, by decide +kernel, rfl, by decide +kernel, by decide +kernel⟩
theorem sc__law_falling : FnScope ["_law_part", "_law_project_here", "_law_found", "_law_ones", "_law_lap", "_law_rest", "_law_most", "_law_last", "_law_many", "_law_wage", "_law_day"] ["_law_part", "_law_project_here"] (defScope s__law_falling) := ⟨rfl, rfl, rfl, by decide +kernel, rfl, by decide +kernel, by decide +kernel⟩
theorem sc__law_project_term : FnScope ["_law_part", "_law_project_here", "_law_found", "_law_pay"] ["_law_part", "_law_project_here"] (defScope s__law_project_term) := ⟨rfl, rfl, rfl, by decide +kernel, rfl, by decide +kernel, by decide +kernel⟩
theorem sc__law_told : FnScope ["_law_call", "_law_part", "_law_project_here", "_law_got", "error", "_law_found"] ["_law_call", "_law_part", "_law_project_here"] (defScope s__law_told) := ⟨rfl, rfl, rfl, by decide +kernel, rfl, by decide +kernel, by decide +kernel⟩
theorem sc__law_bent : FnScope ["_law_pen", "_law_some", "_law_at", "_law_odd", "_law_bent_here"] ["_law_pen", "_law_some"] (defScope s__law_bent) := ⟨rfl, rfl, rfl, by decide +kernel, rfl, by decide +kernel, by decide +kernel⟩
theorem sc__law_yards : FnScope ["_law_pen", "_law_part", "_law_project_here", "_law_low", "_law_few", "_law_value", "_law_due", "_law_eight", "_law_five", "_law_call"] ["_law_pen", "_law_part", "_law_project_here"] (defScope s__law_yards) := ⟨rfl, rfl, rfl, by decide +kernel, rfl, by decide +kernel, by decide +kernel⟩
theorem sc_law : FnScope ["_law_script", "_law_pen", "_law_time", "_law_part", "_law_project_here", "_law_call", "_law_due", "_law_got", "_law_at", "_law_bent_here"] ["_law_script"] (defScope s_law) := ⟨rfl, rfl, rfl, by decide +kernel, rfl, by decide +kernel, by decide +kernel⟩
/-- what the top has written -/
structure Txt (K : PySem.W.Frag) (mg : Str → Option Value) where
  d_is_whole : FT K mg "is_whole" s_is_whole ["value"]
  d_is_fraction : FT K mg "is_fraction" s_is_fraction ["value"]
  d_is_proper : FT K mg "is_proper" s_is_proper ["value"]
  d_lowest : FT K mg "lowest" s_lowest ["top", "bottom"]
  d_add : FT K mg "add" s_add ["one", "other"]
  d_multiply : FT K mg "multiply" s_multiply ["one", "other"]
  d_divide : FT K mg "divide" s_divide ["one", "other"]
  d_is_below : FT K mg "is_below" s_is_below ["one", "other"]
  d_greatest : FT K mg "greatest" s_greatest ["fractions"]
  d_is_project : FT K mg "is_project" s_is_project ["value"]
  d_is_yard : FT K mg "is_yard" s_is_yard ["value"]
  d_require_share_and_project : FT K mg "require_share_and_project" s_require_share_and_project ["share", "project"]
  d_term_of_project : FT K mg "term_of_project" s_term_of_project ["share", "project"]
  d_paid_in_all : FT K mg "paid_in_all" s_paid_in_all ["share", "pays"]
  d_wage : FT K mg "wage" s_wage ["share", "days"]
  d_project_term : FT K mg "project_term" s_project_term ["share", "project"]
  d_falling : FT K mg "falling" s_falling ["share", "project"]
  d__law_spread : FT K mg "_law_spread" s__law_spread ["_law_cell", "_law_at"]
  d__law_open : FT K mg "_law_open" s__law_open ["_law_script"]
  d__law_take : FT K mg "_law_take" s__law_take ["_law_pen", "_law_many"]
  d__law_anew : FT K mg "_law_anew" s__law_anew ["_law_pen"]
  d__law_one : FT K mg "_law_one" s__law_one ["_law_pen", "_law_some"]
  d__law_divisor : FT K mg "_law_divisor" s__law_divisor ["_law_one_here", "_law_other"]
  d__law_frac : FT K mg "_law_frac" s__law_frac ["_law_top", "_law_bottom"]
  d__law_add : FT K mg "_law_add" s__law_add ["_law_one_here", "_law_other"]
  d__law_mul : FT K mg "_law_mul" s__law_mul ["_law_one_here", "_law_other"]
  d__law_is_less : FT K mg "_law_is_less" s__law_is_less ["_law_one_here", "_law_other"]
  d__law_same : FT K mg "_law_same" s__law_same ["_law_one_here", "_law_other"]
  d__law_share : FT K mg "_law_share" s__law_share ["_law_pen"]
  d__law_day_pay : FT K mg "_law_day_pay" s__law_day_pay ["_law_pen"]
  d__law_project : FT K mg "_law_project" s__law_project ["_law_pen", "_law_many"]
  d__law_run_worth : FT K mg "_law_run_worth" s__law_run_worth ["_law_part", "_law_row"]
  d__law_over : FT K mg "_law_over" s__law_over ["_law_one_here", "_law_other"]
  d__law_falling : FT K mg "_law_falling" s__law_falling ["_law_part", "_law_project_here"]
  d__law_project_term : FT K mg "_law_project_term" s__law_project_term ["_law_part", "_law_project_here"]
  d__law_told : FT K mg "_law_told" s__law_told ["_law_call", "_law_part", "_law_project_here"]
  d__law_bent : FT K mg "_law_bent" s__law_bent ["_law_pen", "_law_some"]
  d__law_yards : FT K mg "_law_yards" s__law_yards ["_law_pen", "_law_part", "_law_project_here"]
  d_law : FT K mg "law" s_law ["_law_script"]
  n_abs : mg "abs" = none
  n_all : mg "all" = none
  n_bool : mg "bool" = none
  n_enumerate : mg "enumerate" = none
  n_int : mg "int" = none
  n_isinstance : mg "isinstance" = none
  n_len : mg "len" = none
  n_list : mg "list" = none
  n_max : mg "max" = none
  n_range : mg "range" = none
  n_repr : mg "repr" = none
  n_reversed : mg "reversed" = none
  n_sum : mg "sum" = none
  n_tuple : mg "tuple" = none
  n_gcd : mg "gcd" = some (.builtin "math.gcd")
  a_END : Addr
  c_END : mg "END" = some (.ref a_END)
  k_END : ∃ (o : Obj) (its : Array Value) (n : Nat), K.lookup a_END = some o ∧ o.cls = .type "tuple" ∧ o.data = .seq its n ∧ its.size ≤ sizeLine ∧ Vals [.str "end"] its.toList
  a_ZERO : Addr
  c_ZERO : mg "ZERO" = some (.ref a_ZERO)
  k_ZERO : ∃ (o : Obj) (its : Array Value) (n : Nat), K.lookup a_ZERO = some o ∧ o.cls = .type "tuple" ∧ o.data = .seq its n ∧ its.size ≤ sizeLine ∧ Vals [.int 0, .int 1] its.toList
  a_ONE : Addr
  c_ONE : mg "ONE" = some (.ref a_ONE)
  k_ONE : ∃ (o : Obj) (its : Array Value) (n : Nat), K.lookup a_ONE = some o ∧ o.cls = .type "tuple" ∧ o.data = .seq its n ∧ its.size ≤ sizeLine ∧ Vals [.int 1, .int 1] its.toList
  t_MOST_DAYS : Tok
  c_MOST_DAYS : mg "MOST_DAYS" = some (.int 8 t_MOST_DAYS)
  t_MOST_PROJECTS : Tok
  c_MOST_PROJECTS : mg "MOST_PROJECTS" = some (.int 3 t_MOST_PROJECTS)
  t_MOST_DAYS_IN_ALL : Tok
  c_MOST_DAYS_IN_ALL : mg "MOST_DAYS_IN_ALL" = some (.int 12 t_MOST_DAYS_IN_ALL)
  c_is_project : Addr
  P_is_project : Addr
  h_is_project : d_is_project.fd.code = .ref c_is_project
  c_is_yard : Addr
  P_is_yard : Addr
  h_is_yard : d_is_yard.fd.code = .ref c_is_yard
  n_ValueError : mg "ValueError" = none
  v_VE : PySem.W.findCls K (.type "ValueError") (.type "type") "__init__" = some (.val (.builtin "ValueError.__init__"))
  M : BaseK K mg "MixError" "MixError.__init__" s_i_MixError
  E_BadProject : ErrK K mg "BadProject" "BadProject.__init__" M.C s_i_BadProject
  E_BadShare : ErrK K mg "BadShare" "BadShare.__init__" M.C s_i_BadShare
/-! ### the law's own draws -/
/-- all but what stands at p is as it was -/
def ExB (p : Addr) (H H' : Hp) : Prop := ∀ b o, b ≠ p → H b = some o → H' b = some o
theorem ExB.refl (p : Addr) (H : Hp) : ExB p H H := fun _ _ _ h => h
theorem ExB.trans {p : Addr} {H H1 H2 : Hp} (a : ExB p H H1) (b : ExB p H1 H2) : ExB p H H2 := fun c o n h => b c o n (a c o n h)
theorem Ex.b {p : Addr} {H H1 : Hp} (a : Ex H H1) : ExB p H H1 := fun c o _ h => a c o h
theorem ExB.upd {p : Addr} {H H1 : Hp} {o : HO} (a : ExB p H H1) : ExB p H (upd H1 p o) := fun c o n h => by
  rw [upd_ne n]
  exact a c o n h
/-- the pen at p: its cells, its place, its rest -/
def Pen (H : Hp) (p a : Addr) (N : Nat) : Prop := ∃ (cs : List Int) (at_ vl : Int), H p = some (.lst [.ref a, .int at_, .int vl]) ∧ H a = some (.lst (cs.map V.int)) ∧ a ≠ p ∧ 0 ≤ at_ ∧ at_ ≤ N ∧ 0 ≤ vl ∧ cs.length ≤ 12
theorem Pen.ex {H H' : Hp} {p a : Addr} {N : Nat} (e : Ex H H') (h : Pen H p a N) : Pen H' p a N := by
  obtain ⟨cs, t, v, h1, h2, r⟩ := h
  exact ⟨cs, t, v, e _ _ h1, e _ _ h2, r⟩
theorem Pen.mono {H : Hp} {p a : Addr} {N M : Nat} (e : N ≤ M) (h : Pen H p a N) : Pen H p a M := by
  obtain ⟨cs, t, v, h1, h2, h3, h4, h5, r⟩ := h
  exact ⟨cs, t, v, h1, h2, h3, h4, by omega, r⟩
theorem Pen.hasP {H : Hp} {p a : Addr} {N : Nat} (h : Pen H p a N) : ∃ xs, H p = some (.lst xs) := by
  obtain ⟨cs, t, v, h1, _⟩ := h
  exact ⟨_, h1⟩
theorem Pen.hasC {H : Hp} {p a : Addr} {N : Nat} (h : Pen H p a N) : ∃ xs, H a = some (.lst xs) := by
  obtain ⟨cs, t, v, _, h1, _⟩ := h
  exact ⟨_, h1⟩
/-- a new or another object's store leaves it -/
theorem Pen.upd {H : Hp} {p a q : Addr} {N : Nat} {o : HO} (h : Pen H p a N) (h1 : q ≠ p) (h2 : q ≠ a) : Pen (upd H q o) p a N := by
  obtain ⟨cs, t, v, e1, e2, r⟩ := h
  exact ⟨cs, t, v, by rw [upd_ne h1.symm]; exact e1, by rw [upd_ne h2.symm]; exact e2, r⟩
/-- a tuple stays where a list changes -/
theorem tup_lst {K : PySem.W.Frag} {H H' : Hp} {p c : Addr} {xs ys : List V} (hp : H p = some (.lst xs)) (e : ExB p H H') (h : SqT K H c ys) : SqT K H' c ys := by
  rcases h with (h | ⟨o, h⟩) | h
  · exact .inl (.inl (e c _ (by rintro rfl; rw [hp] at h; cases h) h))
  · exact .inl (.inr ⟨o, e c _ (by rintro rfl; rw [hp] at h; cases h) h⟩)
  · exact .inr h
theorem Fr.lst {K : PySem.W.Frag} {H H' : Hp} {p : Addr} {xs : List V} {b : Nat} {q : Rat} {z : V} (hp : H p = some (.lst xs)) (e : ExB p H H') (h : Fr K b q z H) : Fr K b q z H' := by
  obtain ⟨c, rfl, h, x⟩ := h
  exact ⟨c, rfl, tup_lst hp e h, x⟩
/-- a way through a block, joined behind its first statement -/
theorem s_join {t u : TS} {D : Ends} {σ : L2.St} {H : Hp} (R : L2.St → Hp → Prop) (h1 : ∀ N : L2.St → Hp → Prop, (∀ σ H, R σ H → N σ H) → t { D with nx := N } σ H) (h2 : ∀ σ H, R σ H → u D σ H) : tSeq t u D σ H := h1 (u D) h2
theorem n_seq {t u : TS} {D : Ends} {σ : L2.St} {H : Hp} (h : t { D with nx := u D } σ H) : tSeq t u D σ H := h
theorem n_c {i : Nat} {v : V} {D : Ends} {σ : L2.St} {H : Hp} (h : D.nx (σ.set i (some v)) H) : tAsg (tC v) (gName i) D σ H := h
theorem atI_map {ms : List Int} {i : Int} (h0 : 0 ≤ i) (h : i < ms.length) : ∃ x, atI (ms.map V.int) i = some (.int x) := by
  obtain ⟨k, rfl⟩ : ∃ k : Nat, i = k := ⟨i.toNat, by omega⟩
  have hk : k < ms.length := by omega
  exact ⟨ms[k], atI_nat (by rw [List.getElem?_map, List.getElem?_eq_getElem hk]; rfl)⟩
def primes : List Int := [2147483629, 2147483587, 2147483579, 2147483563, 2147483549, 2147483543, 2147483497, 2147483489, 2147483477, 2147483423, 2147483399, 2147483353, 2147483323]
theorem prime_at {i : Int} (h0 : 0 ≤ i) (h : i < 13) : ∃ x : Int, atI (primes.map V.int) i = some (.int x) ∧ 0 < x ∧ x < 2147483648 := by
  have hk : ∀ k : Fin 13, ∃ x : Int, (primes.map V.int)[k.val]? = some (.int x) ∧ 0 < x ∧ x < 2147483648 := fun k => by
    have hl : k.val < primes.length := k.isLt
    refine ⟨primes[k.val], by rw [List.getElem?_map, List.getElem?_eq_getElem hl]; rfl, ?_⟩
    have : ∀ x ∈ primes, 0 < x ∧ x < 2147483648 := by decide
    exact this _ (List.getElem_mem hl)
  obtain ⟨x, e, hx⟩ := hk ⟨i.toNat, by omega⟩
  refine ⟨x, ?_, hx⟩
  have e2 := atI_nat e
  rwa [show ((i.toNat : Nat) : Int) = i by omega] at e2
theorem b64 {i : Int} (h0 : 0 ≤ i) (h : i < 18446744073709551616) : i.natAbs < 2 ^ 64 := by
  show i.natAbs < 18446744073709551616
  omega
section
variable {P : Program} {w : World} {K : PySem.W.Frag} {mg : Str → Option Value} {base : Heap}
def spSpread : Sp := fun vs H Q _ => ∃ c t : Int, vs = [.int c, .int t] ∧ 0 ≤ t ∧ t ≤ 1000 ∧ ∀ v H', 0 ≤ v → Ex H H' → Q (.int v) H'
theorem ok__law_spread (T : Txt K mg) : FnOk P w K mg base CX0 1 T.d__law_spread.a T.d__law_spread.fd ["_law_cell", "_law_at"] spSpread := by
  refine T.d__law_spread.F.ok sc__law_spread (fun vs H Q E h => ?_) (fun cdv A outer s H vs Q E hr h => ?_)
  · obtain ⟨c, t, rfl, _⟩ := h
    rfl
  · obtain ⟨c, t, rfl, h0, h1, k⟩ := h
    refine ⟨_, (pss_cons (ps_if (pt_cmpR op_ge (pv 0) (pe_op op_pow pe_int pe_int) (nomark _)) (pss_one (ps_ret (pv 0))) pss_nil)
      (pss_cons (ps_set (i := 2) sc__law_spread.nd rfl (Or.inl rfl) (pe_lst (pa_cons pe_int (pa_cons pe_int (pa_cons pe_int (pa_cons pe_int (pa_cons pe_int (pa_cons pe_int (pa_cons pe_int pa_nil)))))))))
      (pss_cons (ps_set (i := 2) sc__law_spread.nd rfl (Or.inl rfl) (pe_op op_cat (pv 2) (pe_lst (pa_cons pe_int (pa_cons pe_int (pa_cons pe_int (pa_cons pe_int (pa_cons pe_int (pa_cons pe_int pa_nil)))))))))
      (pss_cons (ps_set (i := 3) sc__law_spread.nd rfl (Or.inl rfl) (pe_op op_add (pe_op op_add (pe_op op_mulW (pe_op op_mod (pe_callTy call_int1 (by rfl) T.n_int (by decide +kernel) (pa_cons (pv 0) pa_nil)) pe_int) (pe_op op_add (pe_op op_mulW pe_int (pv 1)) pe_int)) (pe_op op_mulW (pv 1) pe_int)) pe_int))
      (pss_cons (ps_set (i := 4) sc__law_spread.nd rfl (Or.inl rfl) (pe_op op_mod (pe_callTy call_int1 (by rfl) T.n_int (by decide +kernel) (pa_cons (pe_op op_pow (pv 3) pe_int) pa_nil)) (pe_ix ix_list (pv 2) (pe_op op_mod (pe_callTy call_int1 (by rfl) T.n_int (by decide +kernel) (pa_cons (pv 1) pa_nil)) pe_int) (fun _ _ => rfl))))
      (pss_cons (ps_set (i := 5) sc__law_spread.nd rfl (Or.inl rfl) (pe_op op_add (pe_op op_mod (pe_callTy call_int1 (by rfl) T.n_int (by decide +kernel) (pa_cons (pv 0) pa_nil)) pe_int) pe_int))
      (pss_cons (ps_set (i := 6) sc__law_spread.nd rfl (Or.inl rfl) (pe_op op_mod (pe_callTy call_int1 (by rfl) T.n_int (by decide +kernel) (pa_cons (pe_op op_pow (pe_op op_add (pe_op op_mulW (pv 4) (pe_op op_add (pv 1) pe_int)) (pv 5)) pe_int) pa_nil)) (pe_ix ix_list (pv 2) (pe_op op_mod (pe_callTy call_int1 (by rfl) T.n_int (by decide +kernel) (pa_cons (pe_op op_add (pv 1) pe_int) pa_nil)) pe_int) (fun _ _ => rfl))))
      (pss_cons (ps_set (i := 7) sc__law_spread.nd rfl (Or.inl rfl) (pe_op op_mod (pe_callTy call_int1 (by rfl) T.n_int (by decide +kernel) (pa_cons (pe_op op_pow (pe_op op_add (pe_op op_add (pv 6) (pe_op op_mod (pe_callTy call_int1 (by rfl) T.n_int (by decide +kernel) (pa_cons (pv 4) pa_nil)) pe_int)) (pv 1)) pe_int) pa_nil)) (pe_ix ix_list (pv 2) (pe_op op_mod (pe_callTy call_int1 (by rfl) T.n_int (by decide +kernel) (pa_cons (pe_op op_add (pv 1) pe_int) pa_nil)) pe_int) (fun _ _ => rfl))))
      (pss_one (ps_ret (pe_op op_add (pe_op op_mulW (pe_op op_add (pe_op op_mulW (pv 4) pe_int) (pv 6)) pe_int) (pv 7)))))))))))), ?_⟩
    -- if cell >= 10 ** 18
    refine ⟨_, rfl, 10, 18, rfl, rfl, ⟨by decide, by decide, by decide⟩, c, _, rfl, rfl, _, rfl, ite2 (fun e => ?_) (fun e => ?_)⟩
    · have e' : (10 : Int) ^ (18 : Int).toNat ≤ c := of_decide_eq_true e
      have e2 : (10 : Int) ^ (18 : Int).toNat = 1000000000000000000 := by decide
      exact ⟨_, rfl, k c H (by omega) (Ex.refl H)⟩
    · -- the primes
      refine ⟨by show 7 ≤ sizeLine; decide, fun p1 f1 => ?_⟩
      refine ⟨.ref p1, rfl, by show 6 ≤ sizeLine; decide, fun p2 f2 => ?_⟩
      have n12 : p1 ≠ p2 := fun z => by
        rw [← z, upd_same] at f2
        cases f2
      refine ⟨p1, p2, _, _, rfl, rfl, (by rw [upd_ne n12]; exact upd_same), upd_same, (by show 13 ≤ sizeLine; decide), fun p3 f3 => ?_⟩
      have e1 : Ex H (upd (upd (upd H p1 (.lst [.int 2147483629, .int 2147483587, .int 2147483579, .int 2147483563, .int 2147483549, .int 2147483543, .int 2147483497])) p2 (.lst [.int 2147483489, .int 2147483477, .int 2147483423, .int 2147483399, .int 2147483353, .int 2147483323])) p3 (.lst ([.int 2147483629, .int 2147483587, .int 2147483579, .int 2147483563, .int 2147483549, .int 2147483543, .int 2147483497] ++ [.int 2147483489, .int 2147483477, .int 2147483423, .int 2147483399, .int 2147483353, .int 2147483323]))) :=
        ((Ex.new f1).trans (Ex.new f2)).trans (Ex.new f3)
      have hp : SqL K (upd (upd (upd H p1 (.lst [.int 2147483629, .int 2147483587, .int 2147483579, .int 2147483563, .int 2147483549, .int 2147483543, .int 2147483497])) p2 (.lst [.int 2147483489, .int 2147483477, .int 2147483423, .int 2147483399, .int 2147483353, .int 2147483323])) p3 (.lst ([.int 2147483629, .int 2147483587, .int 2147483579, .int 2147483563, .int 2147483549, .int 2147483543, .int 2147483497] ++ [.int 2147483489, .int 2147483477, .int 2147483423, .int 2147483399, .int 2147483353, .int 2147483323]))) p3 (primes.map V.int) := SqL.of upd_same
      -- mixed
      have a0 : 0 ≤ c % 1000000007 := Int.emod_nonneg _ (by decide)
      have a1 : c % 1000000007 < 1000000007 := Int.emod_lt_of_pos _ (by decide)
      generalize hc : c % 1000000007 = m at a0 a1
      have b0 : 0 ≤ m * (2 * t + 69069) := Int.mul_nonneg a0 (by omega)
      have b1 : m * (2 * t + 69069) ≤ 1000000007 * 71069 := Int.le_trans (Int.mul_le_mul_of_nonneg_right (by omega : m ≤ 1000000007) (by omega)) (Int.mul_le_mul_of_nonneg_left (by omega) (by decide))
      refine ⟨.int c, rfl, .inl ⟨c, rfl, c, 1000000007, rfl, rfl, (by decide : (0 : Int) < 1000000007), _, rfl, 2, t, rfl, rfl, mulW (a := 64) (b := 64) (b64 (by decide) (by decide)) (b64 h0 (by omega)) (by decide), 2 * t, 69069, rfl, rfl, c % 1000000007, 2 * t + 69069, rfl, rfl, (by rw [hc]; exact mulW (a := 64) (b := 64) (b64 a0 (by omega)) (b64 (by omega) (by omega)) (by decide)), ?_⟩⟩
      rw [hc]
      refine ⟨_, rfl, t, 40503, rfl, rfl, mulW (a := 64) (b := 64) (b64 h0 (by omega)) (b64 (by decide) (by decide)) (by decide), m * (2 * t + 69069), t * 40503, rfl, rfl, m * (2 * t + 69069) + t * 40503, 977, rfl, rfl, ?_⟩
      have m0 : 0 ≤ m * (2 * t + 69069) + t * 40503 + 977 := by omega
      have m1 : m * (2 * t + 69069) + t * 40503 + 977 < 18446744073709551616 := by omega
      -- one
      refine ⟨_, rfl, m * (2 * t + 69069) + t * 40503 + 977, 3, rfl, rfl, ⟨by decide, by decide, b64 m0 m1⟩, .inl ⟨_, rfl, _, rfl, _, rfl, .inl ⟨t, rfl, t, 13, rfl, rfl, (by decide : (0 : Int) < 13), ?_⟩⟩⟩
      obtain ⟨x1, g1, q1, r1⟩ := prime_at (i := t % 13) (Int.emod_nonneg _ (by decide)) (Int.emod_lt_of_pos _ (by decide))
      refine ⟨p3, _, t % 13, .int x1, rfl, rfl, hp, g1, _, x1, rfl, rfl, q1, ?_⟩
      have o0 : 0 ≤ (m * (2 * t + 69069) + t * 40503 + 977) ^ (3 : Int).toNat % x1 := Int.emod_nonneg _ (by omega)
      have o1 : (m * (2 * t + 69069) + t * 40503 + 977) ^ (3 : Int).toNat % x1 < 2147483648 := Int.lt_trans (Int.emod_lt_of_pos _ q1) r1
      dsimp only
      generalize (m * (2 * t + 69069) + t * 40503 + 977) ^ (3 : Int).toNat % x1 = o at o0 o1 ⊢
      -- rest
      refine ⟨.int c, rfl, .inl ⟨c, rfl, c, 65537, rfl, rfl, (by decide : (0 : Int) < 65537), c % 65537, 5, rfl, rfl, ?_⟩⟩
      have s0 : 0 ≤ c % 65537 := Int.emod_nonneg _ (by decide)
      have s1 : c % 65537 < 65537 := Int.emod_lt_of_pos _ (by decide)
      dsimp only
      generalize c % 65537 = s2 at s0 s1 ⊢
      -- two
      have w0 : 0 ≤ o * (t + 3) := Int.mul_nonneg o0 (by omega)
      have w1 : o * (t + 3) ≤ 2147483648 * 1003 := Int.le_trans (Int.mul_le_mul_of_nonneg_right (by omega : o ≤ 2147483648) (by omega)) (Int.mul_le_mul_of_nonneg_left (by omega) (by decide))
      refine ⟨.int o, rfl, .int t, rfl, t, 3, rfl, rfl, o, t + 3, rfl, rfl, mulW (a := 64) (b := 64) (b64 o0 (by omega)) (b64 (by omega) (by omega)) (by decide), .int (s2 + 5), rfl, o * (t + 3), s2 + 5, rfl, rfl, o * (t + 3) + (s2 + 5), 5, rfl, rfl, ⟨by decide, by decide, b64 (by omega) (by omega)⟩, .inl ⟨_, rfl, _, rfl, .int t, rfl, t, 5, rfl, rfl, .inl ⟨t + 5, rfl, t + 5, 13, rfl, rfl, (by decide : (0 : Int) < 13), ?_⟩⟩⟩
      obtain ⟨x2, g2, q2, r2⟩ := prime_at (i := (t + 5) % 13) (Int.emod_nonneg _ (by decide)) (Int.emod_lt_of_pos _ (by decide))
      refine ⟨p3, _, (t + 5) % 13, .int x2, rfl, rfl, hp, g2, _, x2, rfl, rfl, q2, ?_⟩
      have u0 : 0 ≤ (o * (t + 3) + (s2 + 5)) ^ (5 : Int).toNat % x2 := Int.emod_nonneg _ (by omega)
      have u1 : (o * (t + 3) + (s2 + 5)) ^ (5 : Int).toNat % x2 < 2147483648 := Int.lt_trans (Int.emod_lt_of_pos _ q2) r2
      dsimp only
      generalize (o * (t + 3) + (s2 + 5)) ^ (5 : Int).toNat % x2 = y at u0 u1 ⊢
      -- three
      have z0 : 0 ≤ o % 1009 := Int.emod_nonneg _ (by decide)
      have z1 : o % 1009 < 1009 := Int.emod_lt_of_pos _ (by decide)
      refine ⟨.int y, rfl, .int o, rfl, .inl ⟨o, rfl, o, 1009, rfl, rfl, (by decide : (0 : Int) < 1009), y, o % 1009, rfl, rfl, .int t, rfl, y + o % 1009, t, rfl, rfl, y + o % 1009 + t, 3, rfl, rfl, ⟨by decide, by decide, b64 (by omega) (by omega)⟩, .inl ⟨_, rfl, _, rfl, .int t, rfl, t, 7, rfl, rfl, .inl ⟨t + 7, rfl, t + 7, 13, rfl, rfl, (by decide : (0 : Int) < 13), ?_⟩⟩⟩⟩
      obtain ⟨x3, g3, q3, r3⟩ := prime_at (i := (t + 7) % 13) (Int.emod_nonneg _ (by decide)) (Int.emod_lt_of_pos _ (by decide))
      refine ⟨p3, _, (t + 7) % 13, .int x3, rfl, rfl, hp, g3, _, x3, rfl, rfl, q3, ?_⟩
      have v0 : 0 ≤ (y + o % 1009 + t) ^ (3 : Int).toNat % x3 := Int.emod_nonneg _ (by omega)
      dsimp only
      generalize (y + o % 1009 + t) ^ (3 : Int).toNat % x3 = y3 at v0 ⊢
      -- return
      refine ⟨.int o, rfl, o, 2147483647, rfl, rfl, mulW (a := 64) (b := 64) (b64 o0 (by omega)) (b64 (by decide) (by decide)) (by decide), .int y, rfl, o * 2147483647, y, rfl, rfl, o * 2147483647 + y, 2147483647, rfl, rfl, mulW (a := 64) (b := 64) (b64 (by omega) (by omega)) (b64 (by decide) (by decide)) (by decide), .int y3, rfl, _, y3, rfl, rfl, ?_⟩
      exact k _ _ (by omega) e1
def spTake (K : PySem.W.Frag) : Sp := fun vs H Q _ => ∃ (p a : Addr) (m : Int) (N : Nat), vs = [.ref p, .int m] ∧ Pen H p a N ∧ 0 < m ∧ m < 1073741824 ∧ N ≤ 990 ∧ ∀ r H', 0 ≤ r → r < m → ExB p H H' → Pen H' p a (N + 1) → Q (.int r) H'
theorem ok__law_take (T : Txt K mg) : FnOk P w K mg base CX0 2 T.d__law_take.a T.d__law_take.fd ["_law_pen", "_law_many"] (spTake K) := by
  refine T.d__law_take.F.ok sc__law_take (fun vs H Q E h => ?_) (fun cdv A outer s H vs Q E hr h => ?_)
  · obtain ⟨p, a, m, N, rfl, _⟩ := h
    rfl
  · obtain ⟨p, a, m, N, rfl, ⟨cs, t, v, hp, ha, hne, t0, t1, v0, hlen⟩, m0, m1, hN, k⟩ := h
    refine ⟨_, (pss_cons (ps_if (pt_cmpR op_lt (pe_ix ix_list (pv 0) pe_int (fun _ _ => rfl)) (pv 1) (nomark _)) (pss_cons (ps_set (i := 2) sc__law_take.nd rfl (Or.inl rfl) (pe_ix ix_list (pv 0) pe_int (fun _ _ => rfl)))
      (pss_cons (ps_set (i := 3) sc__law_take.nd rfl (Or.inl rfl) pe_int)
      (pss_cons (ps_if (pt_cmpR op_lt (pv 2) (pe_callB call_len_seq (by rfl) T.n_len (by decide +kernel) (pa_cons (pe_ix ix_list (pv 0) pe_int (fun _ _ => rfl)) pa_nil)) (nomark _)) (pss_one (ps_set (i := 3) sc__law_take.nd rfl (Or.inl rfl) (pe_ix ix_list (pe_ix ix_list (pv 0) pe_int (fun _ _ => rfl)) (pv 2) (fun _ _ => rfl)))) (pss_one (ps_if (pt_cmpR op_gt (pe_callB call_len_seq (by rfl) T.n_len (by decide +kernel) (pa_cons (pe_ix ix_list (pv 0) pe_int (fun _ _ => rfl)) pa_nil)) pe_int (nomark _)) (pss_one (ps_set (i := 3) sc__law_take.nd rfl (Or.inl rfl) (pe_op op_mod (pe_callTy call_int1 (by rfl) T.n_int (by decide +kernel) (pa_cons (pe_ix ix_list (pe_ix ix_list (pv 0) pe_int (fun _ _ => rfl)) (pe_op op_mod (pe_callTy call_int1 (by rfl) T.n_int (by decide +kernel) (pa_cons (pe_op op_add (pe_op op_mulW (pv 2) pe_int) pe_int) pa_nil)) (pe_callB call_len_seq (by rfl) T.n_len (by decide +kernel) (pa_cons (pe_ix ix_list (pv 0) pe_int (fun _ _ => rfl)) pa_nil))) (fun _ _ => rfl)) pa_nil)) (pe_op op_add (pe_op op_pow pe_int pe_int) (pv 2))))) pss_nil)))
      (pss_cons (ps_asg (pe_op op_add (pv 2) pe_int) (pg_sub (pv 0) pe_int set_list))
      (pss_one (ps_asg (pe_call (ok__law_spread T) (hr.mono (by decide)) (by rfl) T.d__law_spread.g T.d__law_spread.F.kp T.d__law_spread.b .nil pass0 (pa_cons (pv 3) (pa_cons (pv 2) pa_nil))) (pg_sub (pv 0) pe_int set_list))))))) pss_nil)
      (pss_cons (ps_set (i := 4) sc__law_take.nd rfl (Or.inl rfl) (pe_op op_mod (pe_callTy call_int1 (by rfl) T.n_int (by decide +kernel) (pa_cons (pe_ix ix_list (pv 0) pe_int (fun _ _ => rfl)) pa_nil)) (pv 1)))
      (pss_cons (ps_asg (pe_op op_fdivN (pe_ix ix_list (pv 0) pe_int (fun _ _ => rfl)) (pv 1)) (pg_sub (pv 0) pe_int set_list))
      (pss_one (ps_ret (pv 4)))))), ?_⟩
    have hP : ∀ {H : Hp}, H p = some (.lst [.ref a, .int t, .int v]) → SqL K H p [.ref a, .int t, .int v] := fun h => SqL.of h
    -- behind the if: the pen holds some rest
    refine s_join (fun σ H' => ∃ s2 s3 t' v', σ = [some (.ref p), some (.int m), s2, s3, none] ∧ H' p = some (.lst [.ref a, .int t', .int v']) ∧ ExB p H H' ∧ 0 ≤ t' ∧ t' ≤ N + 1 ∧ 0 ≤ v') (fun NX hNX => ?_) ?_
    · refine ⟨.ref p, rfl, p, _, 2, .int v, rfl, rfl, hP hp, rfl, .int m, rfl, v, m, rfl, rfl, _, rfl, ite2 (fun c => ?_) (fun c => ?_)⟩
      · refine ⟨.ref p, rfl, p, _, 1, .int t, rfl, rfl, hP hp, rfl, ?_⟩
        -- cell
        show tSeq (tAsg (tC (.int 0)) (gName 3)) _ _ _ _
        refine n_seq (n_c ?_)
        dsimp only
        refine s_join (fun σ H'' => ∃ c : Int, σ = [some (.ref p), some (.int m), some (.int t), some (.int c), none] ∧ H'' = H) (fun NX2 h2 => ?_) ?_
        · refine ⟨.int t, rfl, .ref p, rfl, p, _, 0, .ref a, rfl, rfl, hP hp, rfl, a, _, rfl, .inl (SqL.of ha), t, _, rfl, rfl, _, rfl, ite2 (fun d => ?_) (fun d => ?_)⟩
          · have d' : t < (cs.map V.int).length := of_decide_eq_true d
            rw [List.length_map] at d'
            obtain ⟨x, hx⟩ := atI_map (ms := cs) t0 d'
            exact ⟨.ref p, rfl, p, _, 0, .ref a, rfl, rfl, hP hp, rfl, .int t, rfl, a, _, t, .int x, rfl, rfl, SqL.of ha, hx, h2 _ _ ⟨x, rfl, rfl⟩⟩
          · refine ⟨.ref p, rfl, p, _, 0, .ref a, rfl, rfl, hP hp, rfl, a, _, rfl, .inl (SqL.of ha), _, 0, rfl, rfl, _, rfl, ite2 (fun f => ?_) (fun f => ?_)⟩
            · have f' : 0 < ((cs.map V.int).length : Int) := of_decide_eq_true f
              have f2 := f'
              rw [List.length_map] at f2
              obtain ⟨x, hx⟩ := atI_map (ms := cs) (i := (t * 5 + 3) % (cs.length : Int)) (Int.emod_nonneg _ (by omega)) (Int.emod_lt_of_pos _ f2)
              refine ⟨.ref p, rfl, p, _, 0, .ref a, rfl, rfl, hP hp, rfl, .int t, rfl, t, 5, rfl, rfl, mulW (a := 64) (b := 64) (b64 t0 (by omega)) (b64 (by decide) (by decide)) (by decide), t * 5, 3, rfl, rfl, .inl ⟨t * 5 + 3, rfl, .ref p, rfl, p, _, 0, .ref a, rfl, rfl, hP hp, rfl, a, _, rfl, .inl (SqL.of ha), _, _, rfl, rfl, f', ?_⟩⟩
              rw [List.length_map]
              refine ⟨a, _, (t * 5 + 3) % (cs.length : Int), .int x, rfl, rfl, SqL.of ha, hx, .inl ⟨x, rfl, 10, 17, rfl, rfl, ⟨by decide, by decide, by decide⟩, .int t, rfl, _, t, rfl, rfl, x, _, rfl, rfl, ?_, h2 _ _ ⟨_, rfl, rfl⟩⟩⟩
              have e2 : (10 : Int) ^ (17 : Int).toNat = 100000000000000000 := by decide
              show (0 : Int) < (10 : Int) ^ (17 : Int).toNat + t
              omega
            · exact h2 _ _ ⟨0, rfl, rfl⟩
        rintro σ H'' ⟨c1, rfl, rfl⟩
        -- pen[1] = at + 1
        refine ⟨.int t, rfl, t, 1, rfl, rfl, .ref p, rfl, p, _, 1, 1, rfl, rfl, hp, rfl, ?_⟩
        -- pen[2] = spread(cell, at)
        refine ⟨.int c1, rfl, .int t, rfl, c1, t, rfl, t0, by omega, fun v' H3 w0 e3 => ?_⟩
        refine ⟨.ref p, rfl, p, [.ref a, .int (t + 1), .int v], 2, 2, rfl, rfl, e3 _ _ upd_same, rfl, ?_⟩
        exact hNX _ _ ⟨_, _, t + 1, v', rfl, upd_same, ((ExB.upd (ExB.refl p H'')).trans (Ex.b e3)).upd, by omega, by omega, w0⟩
      · exact hNX _ _ ⟨_, _, t, v, rfl, hp, ExB.refl p H, t0, by omega, v0⟩
    · rintro σ H' ⟨s2, s3, t', v', rfl, hp', eb, a0, a1, b0⟩
      have hS : SqL K H' p [.ref a, .int t', .int v'] := SqL.of hp'
      refine ⟨.ref p, rfl, p, _, 2, .int v', rfl, rfl, hS, rfl, .inl ⟨v', rfl, .int m, rfl, v', m, rfl, rfl, m0, ?_⟩⟩
      refine ⟨.ref p, rfl, p, _, 2, .int v', rfl, rfl, hS, rfl, .int m, rfl, v', m, rfl, rfl, ⟨by omega, by omega⟩, .ref p, rfl, p, _, 2, 2, rfl, rfl, hp', rfl, ?_⟩
      refine ⟨_, rfl, k _ _ (Int.emod_nonneg _ (by omega)) (Int.emod_lt_of_pos _ m0) eb.upd ⟨cs, t', _, upd_same, ?_, hne, a0, by omega, ?_, hlen⟩⟩
      · rw [upd_ne hne]
        exact eb _ _ hne ha
      · rw [Int.fdiv_eq_ediv_of_nonneg v' (by omega)]
        exact Int.ediv_nonneg b0 (by omega)
def spAnew : Sp := fun vs H Q _ => ∃ (p a : Addr) (N : Nat), vs = [.ref p] ∧ Pen H p a N ∧ ∀ H', ExB p H H' → Pen H' p a N → Q (.ref p) H'
theorem ok__law_anew (T : Txt K mg) : FnOk P w K mg base CX0 1 T.d__law_anew.a T.d__law_anew.fd ["_law_pen"] spAnew := by
  refine T.d__law_anew.F.ok sc__law_anew (fun vs H Q E h => ?_) (fun cdv A outer s H vs Q E hr h => ?_)
  · obtain ⟨p, a, N, rfl, _⟩ := h
    rfl
  · obtain ⟨p, a, N, rfl, ⟨cs, t, v, hp, ha, hne, t0, t1, v0, hlen⟩, k⟩ := h
    refine ⟨_, (pss_cons (ps_asg pe_int (pg_sub (pv 0) pe_int set_list))
      (pss_one (ps_ret (pv 0)))), ?_⟩
    refine ⟨.ref p, rfl, p, _, 2, 2, rfl, rfl, hp, rfl, ?_⟩
    exact ⟨_, rfl, k _ (ExB.upd (ExB.refl p H)) ⟨cs, t, 0, upd_same, by rw [upd_ne hne]; exact ha, hne, t0, t1, by omega, hlen⟩⟩
def spOne (K : PySem.W.Frag) : Sp := fun vs H Q _ => ∃ (p a s : Addr) (xs : List V) (N : Nat), vs = [.ref p, .ref s] ∧ Pen H p a N ∧ H s = some (.lst xs) ∧ s ≠ p ∧ 0 < xs.length ∧ xs.length < 1073741824 ∧ N ≤ 990 ∧ ∀ (x : V) (H' : Hp), x ∈ xs → ExB p H H' → Pen H' p a (N + 1) → Q x H'
theorem ok__law_one (T : Txt K mg) : FnOk P w K mg base CX0 3 T.d__law_one.a T.d__law_one.fd ["_law_pen", "_law_some"] (spOne K) := by
  refine T.d__law_one.F.ok sc__law_one (fun vs H Q E h => ?_) (fun cdv A outer s H vs Q E hr h => ?_)
  · obtain ⟨p, a, s, xs, N, rfl, _⟩ := h
    rfl
  · obtain ⟨p, a, s, xs, N, rfl, hp, hs, hsp, l0, l1, hN, k⟩ := h
    refine ⟨_, (pss_one (ps_ret (pe_ix ix_list (pv 1) (pe_call (ok__law_take T) (hr.mono (by decide)) (by rfl) T.d__law_take.g T.d__law_take.F.kp T.d__law_take.b .nil pass0 (pa_cons (pv 0) (pa_cons (pe_callB call_len_seq (by rfl) T.n_len (by decide +kernel) (pa_cons (pv 1) pa_nil)) pa_nil))) (fun _ _ => rfl)))), ?_⟩
    refine ⟨_, rfl, _, rfl, .ref s, rfl, s, xs, rfl, .inl (SqL.of hs), p, a, _, N, rfl, hp, by omega, by omega, hN, fun r H' r0 r1 eb hp' => ?_⟩
    have hk : r.toNat < xs.length := by omega
    have hx := atI_nat (List.getElem?_eq_getElem hk)
    rw [show ((r.toNat : Nat) : Int) = r by omega] at hx
    exact ⟨s, xs, r, _, rfl, rfl, SqL.of (eb _ _ hsp hs), hx, k _ H' (List.getElem_mem hk) eb hp'⟩
theorem cut_map (ms : List Int) (lo hi : Option Int) : cutV (ms.map V.int) lo hi = ((ms.drop (HT.sIx ms.length 0 lo)).take (HT.sIx ms.length ms.length hi - HT.sIx ms.length 0 lo)).map V.int := by
  unfold cutV
  rw [List.length_map, ← List.map_drop, ← List.map_take]
def spOpen (K : PySem.W.Frag) : Sp := fun vs H Q _ => ∃ (a : Addr) (ns : List Int), vs = [.ref a] ∧ SqL K H a (ns.map V.int) ∧ ns.length ≤ 63 ∧ ∀ p c H', Ex H H' → Pen H' p c 0 → H p = none → Q (.ref p) H'
theorem ok__law_open (T : Txt K mg) : FnOk P w K mg base CX0 1 T.d__law_open.a T.d__law_open.fd ["_law_script"] (spOpen K) := by
  refine T.d__law_open.F.ok sc__law_open (fun vs H Q E h => ?_) (fun cdv A outer s H vs Q E hr h => ?_)
  · obtain ⟨a, ns, rfl, _⟩ := h
    rfl
  · obtain ⟨a, ns, rfl, hS, hl, k⟩ := h
    refine ⟨_, (pss_cons (ps_set (i := 1) sc__law_open.nd rfl (Or.inl rfl) (pe_callTy call_list_of (by rfl) T.n_list (by decide +kernel) (pa_cons (pe_slice sl_list (pv 0) po_none (po_some pe_int)) pa_nil)))
      (pss_cons (ps_for PassesOwn.never rfl (pi_enum (by rfl) T.n_enumerate (pa_cons (pe_slice sl_list (pv 0) (po_some pe_int) (po_some pe_int)) pa_nil)) (pg_tup (by rfl) (pgs_cons (pg_name (i := 2) sc__law_open.nd rfl (Or.inl rfl)) (pgs_cons (pg_name (i := 3) sc__law_open.nd rfl (Or.inl rfl)) pgs_nil))) (pss_one (ps_asg (pe_op op_add (pe_ix ix_list (pv 1) (pe_op op_mod (pe_callTy call_int1 (by rfl) T.n_int (by decide +kernel) (pa_cons (pv 2) pa_nil)) pe_int) (fun _ _ => rfl)) (pv 3)) (pg_sub (pv 1) (pe_op op_mod (pe_callTy call_int1 (by rfl) T.n_int (by decide +kernel) (pa_cons (pv 2) pa_nil)) pe_int) set_list))))
      (pss_one (ps_ret (pe_lst (pa_cons (pv 1) (pa_cons pe_int (pa_cons pe_int pa_nil)))))))), ?_⟩
    -- cells = list(script[:12])
    have e0 : ∀ n : Nat, HT.sIx n 0 none = 0 := fun n => HT.sIx_none n 0
    have e12 : HT.sIx ns.length ns.length (some 12) = min 12 ns.length := HT.sIx_nat ns.length ns.length 12
    have e12' : HT.sIx ns.length 0 (some 12) = min 12 ns.length := HT.sIx_nat ns.length 0 12
    generalize hms : (ns.drop (HT.sIx ns.length 0 (some 12))).take (HT.sIx ns.length ns.length (some 63) - HT.sIx ns.length 0 (some 12)) = ms
    have cm : cutV (ns.map V.int) (some 12) (some 63) = ms.map V.int := by
      rw [cut_map, hms]
    have cc : cutV (ns.map V.int) none (some 12) = (ns.take (min 12 ns.length)).map V.int := by
      rw [cut_map, e0, e12, List.drop_zero, Nat.sub_zero]
    have hml : 0 < ms.length → 12 ≤ ns.length := fun z => by
      rw [← hms, List.length_take, List.length_drop, e12'] at z
      omega
    refine ⟨.ref a, rfl, 12, rfl, a, _, rfl, hS, fun p1 f1 => ?_⟩
    rw [cc]
    have x1 := Ex.new (o := .lst ((ns.take (min 12 ns.length)).map V.int)) f1
    refine ⟨p1, _, rfl, .inl (SqL.of upd_same), fun p2 f2 => ?_⟩
    have x2 := Ex.new (o := .lst ((ns.take (min 12 ns.length)).map V.int)) f2
    have n2 : H p2 = none := fresh_back x1 f2
    -- for k, cell in enumerate(script[12:63])
    refine ⟨.ref a, rfl, 12, rfl, 63, rfl, a, _, rfl, ex_l (x1.trans x2) hS, fun p3 f3 => ?_⟩
    rw [cm]
    have x3 := Ex.new (o := .lst (ms.map V.int)) f3
    have n32 : p2 ≠ p3 := fun z => by
      rw [← z, upd_same] at f3
      cases f3
    have n3 : H p3 = none := fresh_back (x1.trans x2) f3
    refine ⟨p3, _, rfl, SqL.of upd_same, ?_⟩
    refine ⟨fun i m σ H' => m = ms.length - i ∧ i ≤ ms.length ∧ ∃ (s2 s3 : Option V) (cs : List Int), σ = [some (.ref a), some (.ref p2), s2, s3] ∧ Ex H H' ∧ H' p3 = some (.lst (ms.map V.int)) ∧ H' p2 = some (.lst (cs.map V.int)) ∧ cs.length = min 12 ns.length,
      ⟨ms.length, by omega, Nat.zero_le _, none, none, ns.take (min 12 ns.length), rfl, (x1.trans x2).trans x3, upd_same, by rw [upd_ne n32]; exact upd_same, by rw [List.length_take]; omega⟩, ?_⟩
    rintro i m σ H' ⟨rfl, hi, s2, s3, cs, rfl, ex, h3, h2, hcl⟩
    by_cases hlt : i < ms.length
    · refine .inr ⟨⟨_, V.int ms[i], SqL.of h3, by rw [List.getElem?_map, List.getElem?_eq_getElem hlt]; rfl⟩, fun σ' H'' => ∃ (s2 s3 : Option V) (cs : List Int), σ' = [some (.ref a), some (.ref p2), s2, s3] ∧ Ex H H'' ∧ H'' p3 = some (.lst (ms.map V.int)) ∧ H'' p2 = some (.lst (cs.map V.int)) ∧ cs.length = min 12 ns.length, fun σ' H'' q => ⟨ms.length - (i + 1), by omega, rfl, hlt, q⟩, fun x H'' y => ?_⟩
      obtain ⟨t, z, rfl, ft, rfl, hz⟩ := y
      have ez : z = V.int ms[i] := by
        have := hz _ (SqL.of h3)
        rw [List.getElem?_map, List.getElem?_eq_getElem hlt] at this
        exact (Option.some.inj this).symm
      subst ez
      have nt2 : p2 ≠ t := ne_of_none h2 ft
      have nt3 : p3 ≠ t := ne_of_none h3 ft
      have x4 := Ex.new (o := .tup [.int (i : Nat), .int ms[i]]) ft
      have g2 := x4 _ _ h2
      have hc12 : cs.length = 12 := by
        have := hml (by omega)
        omega
      have z0 : 0 ≤ (i : Int) % 12 := Int.emod_nonneg _ (by decide)
      have z1 : (i : Int) % 12 < 12 := Int.emod_lt_of_pos _ (by decide)
      obtain ⟨c, hc⟩ := atI_map (ms := cs) z0 (by omega)
      refine ⟨t, _, rfl, SqT.of upd_same, rfl, _, _, rfl, _, _, rfl, rfl, ?_⟩
      -- cells[k % 12] = cells[k % 12] + cell
      refine ⟨_, rfl, _, rfl, .inl ⟨_, rfl, _, 12, rfl, rfl, (by decide : (0 : Int) < 12), p2, _, (i : Int) % 12, .int c, rfl, rfl, SqL.of g2, hc, _, rfl, c, ms[i], rfl, rfl, ?_⟩⟩
      refine ⟨_, rfl, _, rfl, .inl ⟨_, rfl, _, 12, rfl, rfl, (by decide : (0 : Int) < 12), p2, _, (i : Int) % 12, ((i : Int) % 12).toNat, rfl, rfl, g2, ?_, ?_⟩⟩
      · unfold ixN
        rw [if_pos z0, if_pos (by rw [List.length_map]; omega)]
      · refine ⟨_, _, cs.set ((i : Int) % 12).toNat (c + ms[i]), rfl, ?_, ?_, ?_, ?_⟩
        · intro b o hb
          rw [upd_ne (ne_of_none hb n2)]
          exact x4 _ _ (ex _ _ hb)
        · rw [upd_ne n32.symm]
          exact x4 _ _ h3
        · rw [upd_same, List.map_set]
        · rw [List.length_set]
          exact hcl
    · refine .inl ⟨⟨_, SqL.of h3, by rw [List.length_map]; omega⟩, ?_⟩
      -- return [cells, 0, 0]
      refine ⟨_, rfl, by show 3 ≤ sizeLine; decide, fun p4 f4 => ?_⟩
      have n4 : p2 ≠ p4 := ne_of_none h2 f4
      exact k p4 p2 _ (ex.trans (Ex.new f4)) ⟨cs, 0, 0, upd_same, by rw [upd_ne n4]; exact h2, n4, by omega, by omega, by omega, by omega⟩ (fresh_back ex f4)
end
/-! ### the program: onenumber.errors, onenumber.amounts, for any data -/
/-- an error of the class at C that keeps v, raised from H on -/
def Er (C : Addr) (v : V) (H : Hp) (E : XK) : Prop := ∀ dd k H', Ex H H' → H' dd = some (.xd (kd k v)) → E (.ref C) (some dd) H'
theorem Er.ex {C : Addr} {v : V} {H H1 : Hp} {E : XK} (e : Ex H H1) (h : Er C v H E) : Er C v H1 E := fun dd k H' e' q => h dd k H' (e.trans e') q
theorem rd_raise {C : Addr} {v : V} {σ : L2.St} {H : Hp} {i : Nat} {E : XK} (hv : σ[i]? = some (some v)) (k : Er C v H E) : tMkO C (spInit C) [] (tCons (tVar i) tNil) σ H E := by
  refine ⟨v, hv, by show 1 ≤ 1000; decide, fun a ha => ⟨a, v, rfl, upd_same, fun dx kn H' h1 ne e1 e2 keep => ⟨rfl, dx, _, e1, e2, ?_, ?_⟩⟩⟩
  · rw [upd_ne ne] at h1
    exact h1
  · rw [upd_ne ne] at h1
    refine k dx kn _ (fun b o hb => ?_) upd_same
    have n1 : b ≠ a := ne_of_none hb ha
    rw [upd_ne (ne_of_none hb h1), del_ne n1]
    exact keep b o n1 (by rw [upd_ne n1]; exact hb)
def ival : PyData → Int
  | .int n => n
  | _ => 0
section
variable {K : PySem.W.Frag} {p : Addr} {H H' : Hp} {v : V} {d : PyData} {σ : L2.St} {i : Nat} {b : Bool}
theorem Dq.ival (h : Dq K p H v d) (hw : isWh d = true) : v = .int (ival d) ∧ d = .int (Jf.ival d) := by
  cases h with
  | int n => exact ⟨rfl, rfl⟩
  | _ => cases hw
theorem ev_isi {T : String} (hv : σ[i]? = some (some v)) (hd : Dq K p H v d) (hk : kitB (tyName d) T = some b) : Ev (tCB (rIsi K) (tCons (tVar i) (tCons (tC (.ty T)) tNil))) σ H (.bl b) :=
  fun H1 e Q k => ⟨v, hv, v, .ty T, .type (tyName d), .type T, b, rfl, .ty _, (Dq.ex e _ _ hd).ty, kit_ty hk, k H1 (Ex.refl H1)⟩
def spIsD (K : PySem.W.Frag) (sm : PyData → Prop) (f : PyData → Bool) : Sp := fun vs H Q _ => ∃ (p : Addr) (v : V) (d : PyData), vs = [v] ∧ Dq K p H v d ∧ sm d ∧ ∀ H', Ex H H' → Q (.bl (f d)) H'
theorem ev_isD {E : XK} {sm : PyData → Prop} {f : PyData → Bool} {te : TE} (he : Ev te σ H v) (hd : Dq K p H v d) (hs : sm d) : Ev (tCall (spIsD K sm f) [] E (tCons te tNil)) σ H (.bl (f d)) :=
  fun H1 e Q k => he H1 e _ fun H2 e2 => ⟨p, v, d, rfl, Dq.ex (e.trans e2) _ _ hd, hs, fun H' e' => k H' (e2.trans e')⟩
/-- nothing asked -/
def Any (_ : PyData) : Prop := True
def spReq (K : PySem.W.Frag) (C : Addr) (f : PyData → Bool) : Sp := fun vs H Q E => ∃ (p : Addr) (v : V) (d : PyData), vs = [v] ∧ Dq K p H v d ∧ (f d = true → ∀ H', Ex H H' → Q .non H') ∧ (f d = false → Er C v H E)
/-- two fractions, or none -/
def spX (K : PySem.W.Frag) (C : Addr) (ok : Rat → Prop) (R : Rat → Rat → V → Hp → Prop) : Sp := fun vs H Q E => ∃ (p : Addr) (u v : V) (d e : PyData), vs = [u, v] ∧ Dq K p H u d ∧ Dq K p H v e ∧ Bd 100 (frQ d) ∧ Bd 100 (frQ e) ∧
  (frB d = false → Er C u H E) ∧ (frB d = true → frB e = false → Er C v H E) ∧ (frB d = true → frB e = true → ¬ ok (frQ e) → Er C v H E) ∧
  (frB d = true → frB e = true → ok (frQ e) → ∀ z H', Ex H H' → R (frQ d) (frQ e) z H' → Q z H')
end
section
variable {P : Program} {w : World} {K : PySem.W.Frag} {mg : Str → Option Value} {base : Heap}
end
section
variable {P : Program} {w : World} {K : PySem.W.Frag} {mg : Str → Option Value} {base : Heap}
theorem ok_i_MixError (T : Txt K mg) : FnOk P w K mg base CX0 1 T.M.f T.M.fd ["self", "value"] (spInitM K) := by
  refine T.M.F.ok sc_i_MixError (fun vs H Q E h => ?_) (fun cdv A outer s H vs Q E hr h => ?_)
  · obtain ⟨C, a, v, nm, rfl, _⟩ := h
    rfl
  · obtain ⟨C, a, v, nm, rfl, ox, nv, nk, NM, ha, k⟩ := h
    refine ⟨_, pss_cons (ps_expr (pe_veinit (by rfl) T.n_ValueError T.v_VE (pa_cons (pv 0) (pa_cons pe_str pa_nil)))) (pss_cons (ps_ost (pv 0) (pv 1)) (pss_one (ps_ost (pv 0) (pe_nm (pv 0))))), ?_⟩
    refine ⟨_, rfl, a, C, _, rfl, by show 1 ≤ 1000; decide, ox, ha, ?_⟩
    refine ⟨v, rfl, .ref a, rfl, a, C, rfl, ox, nv, .inl ⟨ha, fun dx hdx ne => ?_⟩⟩
    have ed : (upd (upd H dx (exd dx [(("value" : Str), v)])) a (exo a C (some dx))) dx = some (exd dx [(("value" : Str), v)]) := by rw [upd_ne ne]; exact upd_same
    refine ⟨.ref a, rfl, a, C, dx, _, nm, rfl, NM, upd_same, ed, .ref a, rfl, a, C, rfl, ox, nk, .inr ⟨dx, _, upd_same, ed, by show 1 ≤ 900; decide, ?_⟩⟩
    refine k dx nm _ hdx ne (by rw [upd_ne ne.symm]; exact upd_same) upd_same fun b o hb h => ?_
    rw [upd_ne (ne_of_none h hdx), upd_ne hb, upd_ne (ne_of_none h hdx)]
    exact h
theorem ok_i_BadProject (T : Txt K mg) : FnOk P w K mg base CX0 2 T.E_BadProject.f T.E_BadProject.fd ["self", "value"] (spInit T.E_BadProject.C) := by
  refine T.E_BadProject.F.ok sc_i_BadProject (fun vs H Q E h => ?_) (fun cdv A outer s H vs Q E hr h => ?_)
  · obtain ⟨a, v, rfl, _⟩ := h
    rfl
  · obtain ⟨a, v, rfl, ha, k⟩ := h
    refine ⟨_, pss_one (ps_expr (pe_clsdef (by rfl) T.M.g T.M.rd T.M.ga T.M.fi T.M.kp (ok_i_MixError T) (hr.mono (by decide)) T.M.b pass0 (pa_cons (pv 0) (pa_cons (pv 1) pa_nil)))), ?_⟩
    exact ⟨_, rfl, _, rfl, T.E_BadProject.C, a, v, _, rfl, T.E_BadProject.x.oex, T.E_BadProject.x.noV, T.E_BadProject.x.noK, T.E_BadProject.x.nm, ha, k⟩
theorem ok_i_BadShare (T : Txt K mg) : FnOk P w K mg base CX0 2 T.E_BadShare.f T.E_BadShare.fd ["self", "value"] (spInit T.E_BadShare.C) := by
  refine T.E_BadShare.F.ok sc_i_BadShare (fun vs H Q E h => ?_) (fun cdv A outer s H vs Q E hr h => ?_)
  · obtain ⟨a, v, rfl, _⟩ := h
    rfl
  · obtain ⟨a, v, rfl, ha, k⟩ := h
    refine ⟨_, pss_one (ps_expr (pe_clsdef (by rfl) T.M.g T.M.rd T.M.ga T.M.fi T.M.kp (ok_i_MixError T) (hr.mono (by decide)) T.M.b pass0 (pa_cons (pv 0) (pa_cons (pv 1) pa_nil)))), ?_⟩
    exact ⟨_, rfl, _, rfl, T.E_BadShare.C, a, v, _, rfl, T.E_BadShare.x.oex, T.E_BadShare.x.noV, T.E_BadShare.x.noK, T.E_BadShare.x.nm, ha, k⟩
end
section
variable {P : Program} {w : World} {K : PySem.W.Frag} {mg : Str → Option Value} {base : Heap}
theorem ok_is_whole (T : Txt K mg) : FnOk P w K mg base CX0 1 T.d_is_whole.a T.d_is_whole.fd ["value"] (spIsD K Any isWh) := by
  refine T.d_is_whole.F.ok sc_is_whole (fun vs H Q E h => ?_) (fun cdv A outer s H vs Q E hr h => ?_)
  · obtain ⟨p, v, d, rfl, _⟩ := h
    rfl
  · obtain ⟨p, v, d, rfl, hd, _, k⟩ := h
    refine ⟨_, (pss_one (ps_ret (pe_and (pe_callB call_isi (by rfl) T.n_isinstance (by decide +kernel) (pa_cons (pv 0) (pa_cons (pe_bltn (v := .ty "int") (by rfl) T.n_int (by decide +kernel) rfl) pa_nil))) (pe_one (pe_not (pe_callB call_isi (by rfl) T.n_isinstance (by decide +kernel) (pa_cons (pv 0) (pa_cons (pe_bltn (v := .ty "bool") (by rfl) T.n_bool (by decide +kernel) rfl) pa_nil)))))))), ?_⟩
    refine s_ret (ev_andV (ev_isi rfl hd (kit_int d)) fun _ => ev_notV (ev_isi rfl hd (kit_bool d))) fun H1 e => ?_
    rw [wh_eq]
    exact k H1 e
theorem ok_is_fraction (T : Txt K mg) : FnOk P w K mg base CX0 2 T.d_is_fraction.a T.d_is_fraction.fd ["value"] (spIsD K Any frB) := by
  refine T.d_is_fraction.F.ok sc_is_fraction (fun vs H Q E h => ?_) (fun cdv A outer s H vs Q E hr h => ?_)
  · obtain ⟨p, v, d, rfl, _⟩ := h
    rfl
  · obtain ⟨p, v, d, rfl, hd, _, k⟩ := h
    refine ⟨_, (pss_cons (ps_if (PW.pt (pw_or (pt_not (pt_val (pe_callB call_isi (by rfl) T.n_isinstance (by decide +kernel) (pa_cons (pv 0) (pa_cons (pe_bltn (v := .ty "tuple") (by rfl) T.n_tuple (by decide +kernel) rfl) pa_nil))))) (pw_or1 (pt_cmpR op_ne (pe_callB call_len_seq (by rfl) T.n_len (by decide +kernel) (pa_cons (pv 0) pa_nil)) pe_int (nomark _))))) (pss_one (ps_ret pe_bl)) pss_nil)
      (pss_cons (ps_asg (pv 0) (pg_tup (by rfl) (pgs_cons (pg_name (i := 1) sc_is_fraction.nd rfl (Or.inl rfl)) (pgs_cons (pg_name (i := 2) sc_is_fraction.nd rfl (Or.inl rfl)) pgs_nil))))
      (pss_cons (ps_if (PW.pt (pw_or (pt_not (pt_val (pe_call (ok_is_whole T) (hr.mono (by decide)) (by rfl) T.d_is_whole.g T.d_is_whole.F.kp T.d_is_whole.b .nil pass0 (pa_cons (pv 1) pa_nil)))) (pw_or (pt_not (pt_val (pe_call (ok_is_whole T) (hr.mono (by decide)) (by rfl) T.d_is_whole.g T.d_is_whole.F.kp T.d_is_whole.b .nil pass0 (pa_cons (pv 2) pa_nil)))) (pw_or1 (pt_cmpR op_le (pv 2) pe_int (nomark _)))))) (pss_one (ps_ret pe_bl)) pss_nil)
      (pss_one (ps_ret (pe_cmpR op_eq (pe_callBfun cr_gcd (by rfl) T.n_gcd (pa_cons (pv 1) (pa_cons (pv 2) pa_nil))) pe_int (nomark _))))))), ?_⟩
    by_cases ht : isTup d = true
    · cases hd with
      | @tup a xs ds hS hA =>
        by_cases h2 : xs.length = 2
        · have h2' := h2
          rw [hA.len] at h2'
          obtain ⟨x1, x2, rfl⟩ : ∃ x1 x2, xs = [x1, x2] := match xs, h2 with | [x1, x2], _ => ⟨x1, x2, rfl⟩
          obtain ⟨d1, d2, rfl⟩ : ∃ d1 d2, ds = [d1, d2] := match ds, h2' with | [d1, d2], _ => ⟨d1, d2, rfl⟩
          have hD : Dq K p H (.ref a) (.tuple [d1, d2]) := .tup hS hA
          obtain ⟨q1, q2⟩ : Dq K p H x1 d1 ∧ Dq K p H x2 d2 := by
            cases hA with
            | cons a b =>
              cases b with
              | cons b c => exact ⟨a, b⟩
          refine s_if (b := false) (et_is (et_or (et_not (et_B (ev_isi rfl hD (kit_tup _)))) fun _ => et_test (fun H1 e Q k => ⟨_, rfl, a, _, rfl, .inr (ex_t e hS), rfl, k H1 (Ex.refl H1)⟩)) rfl) (fun z => nomatch z) fun _ H1 e1 => ?_
          refine ⟨_, rfl, a, [x1, x2], rfl, ex_t e1 hS, rfl, _, _, rfl, _, _, rfl, rfl, ?_⟩
          have r1 := Dq.ex e1 _ _ q1
          have r2 := Dq.ex e1 _ _ q2
          have hlt : isWh d2 = true → x2 = .int (ival d2) := fun z => (r2.ival z).1
          refine s_if (b := !isWh d1 || (!isWh d2 || decide (ival d2 ≤ 0))) (et_or (et_not (et_B (ev_isD (ev_var rfl) r1 trivial))) fun _ => et_or (et_not (et_B (ev_isD (ev_var rfl) r2 trivial))) fun z => et_test (by
            have z' : isWh d2 = true := by simpa using z
            have hx := hlt z'
            subst hx
            exact ev_op (ev_var rfl) ev_c rv_I0)) (fun z H2 e2 => ?_) (fun z H2 e2 => ?_)
          · have e : frB (.tuple [d1, d2]) = false := by
              cases d1 with
              | int n =>
                cases d2 with
                | int m =>
                  have z' : decide (m ≤ 0) = true := z
                  have : ¬ 0 < m := by
                    have := of_decide_eq_true z'
                    omega
                  simp [frB, this]
                | _ => rfl
              | _ => rfl
            rw [e] at k
            exact k H2 (e1.trans e2)
          · have w1 : isWh d1 = true := by
              cases h : isWh d1 with
              | true => rfl
              | false =>
                rw [h] at z
                cases z
            have w2 : isWh d2 = true := by
              cases h : isWh d2 with
              | true => rfl
              | false =>
                rw [h, w1] at z
                cases z
            obtain ⟨g1, g2⟩ := r1.ival w1
            obtain ⟨g3, g4⟩ := r2.ival w2
            rw [w1, w2] at z
            have z' : ¬ ival d2 ≤ 0 := of_decide_eq_false (by simpa using z)
            generalize ival d1 = n at g1 g2
            generalize ival d2 = m at g3 g4 z'
            subst g1 g2 g3 g4
            refine ⟨_, rfl, _, rfl, n, m, rfl, rfl, ?_⟩
            have e : frB (.tuple [.int n, .int m]) = decide (V.int ((Nat.gcd n.natAbs m.natAbs : Nat) : Int) = V.int 1) := by
              simp only [frB]
              rw [decide_eq_true (by omega : 0 < m), Bool.true_and]
              rw [Bool.eq_iff_iff, decide_eq_true_iff, decide_eq_true_iff]
              constructor
              · intro h
                rw [h]
                rfl
              · intro h
                have := V.int.inj h
                omega
            rw [e] at k
            exact k H2 (e1.trans e2)
        · refine s_if (b := true) (et_is (et_or (et_not (et_B (ev_isi rfl (.tup hS hA) (kit_tup _)))) fun _ => et_test (fun H1 e Q k => ⟨_, rfl, a, _, rfl, .inr (ex_t e hS), rfl, k H1 (Ex.refl H1)⟩)) ?_) (fun _ H1 e1 => ?_) (fun z => nomatch z)
          · have : ¬ V.int (xs.length : Int) = V.int 2 := fun z => h2 (by
              have := V.int.inj z
              omega)
            simp [isTup, this]
          · have e : frB (.tuple ds) = false := by
              have := hA.len
              match ds, this with
              | [], _ => rfl
              | [_], _ => simp [frB]
              | [_, _], h => exact absurd h h2
              | _ :: _ :: _ :: _, _ => simp [frB]
            rw [e] at k
            exact k H1 e1
      | _ => cases ht
    · have e : frB d = false := by
        cases d <;> (first | rfl | exact absurd rfl ht)
      have ht' : isTup d = false := by simpa using ht
      refine s_if (b := true) (et_is (et_or (b := false) (et_not (et_B (ev_isi rfl hd (kit_tup d)))) fun z => ?_) ?_) (fun _ H1 e1 => ?_) (fun z => nomatch z)
      · rw [ht'] at z
        cases z
      · rw [ht']
        rfl
      · rw [e] at k
        exact k H1 e1
end
def posB (d : PyData) : Bool := frB d && decide (0 < (frQ d).num)
section
variable {K : PySem.W.Frag} {p : Addr} {H : Hp} {v : V} {d : PyData} {σ : L2.St} {i : Nat}
theorem Dq.seq {ds : List PyData} (h : Dq K p H v (.tuple ds)) : ∃ a xs, v = .ref a ∧ SqT K H a xs ∧ DqAll K p H xs ds := by
  cases h with
  | tup hS hA => exact ⟨_, _, rfl, hS, hA⟩
theorem ev_lenT {ds : List PyData} (hv : σ[i]? = some (some v)) (hd : Dq K p H v (.tuple ds)) : Ev (tCB (fun xs H_1 Q => ∃ p ys, xs = [V.ref p] ∧ (SqL K H_1 p ys ∨ SqT K H_1 p ys) ∧ Q (V.int ys.length) H_1) (tCons (tVar i) tNil)) σ H (.int (ds.length : Int)) := fun H1 e Q k => by
  obtain ⟨a, xs, rfl, hS, hA⟩ := hd.seq
  refine ⟨_, hv, a, xs, rfl, .inr (ex_t e hS), ?_⟩
  rw [hA.len]
  exact k H1 (Ex.refl H1)
theorem DqAll.get : ∀ {vs : List V} {ds : List PyData} {j : Nat} {dj : PyData}, DqAll K p H vs ds → ds[j]? = some dj → ∃ x, vs[j]? = some x ∧ Dq K p H x dj
  | _, _, j, dj, .nil, e => by simp at e
  | _, _, 0, dj, .cons h hs, e => by
    simp only [List.getElem?_cons_zero, Option.some.injEq] at e
    subst e
    exact ⟨_, rfl, h⟩
  | _, _, j + 1, dj, .cons h hs, e => by
    simp only [List.getElem?_cons_succ] at e ⊢
    exact DqAll.get hs e
/-- an item of a tuple -/
theorem ed_ix {ds : List PyData} {j : Nat} {dj : PyData} (hv : σ[i]? = some (some v)) (hd : Dq K p H v (.tuple ds)) (e : ds[j]? = some dj) : EvP (tOp (rIxT K) (tVar i) (tC (.int (j : Int)))) σ H (fun x H' => Dq K p H' x dj) := fun H1 e1 Q k => by
  obtain ⟨a, xs, rfl, hS, hA⟩ := hd.seq
  obtain ⟨x, hx, q⟩ := hA.get e
  exact ⟨_, hv, a, xs, j, x, rfl, rfl, ex_t e1 hS, atI_nat hx, k x H1 (Ex.refl _) (Dq.ex e1 _ _ q)⟩
theorem ev_isDp {E : XK} {sm : PyData → Prop} {f : PyData → Bool} {te : TE} (he : EvP te σ H fun x H' => Dq K p H' x d) (hs : sm d) : Ev (tCall (spIsD K sm f) [] E (tCons te tNil)) σ H (.bl (f d)) :=
  fun H1 e Q k => he H1 e _ fun x H2 e2 q => ⟨p, x, d, rfl, q, hs, fun H' e' => k H' (e2.trans e')⟩
end
section
variable {K : PySem.W.Frag} {p : Addr} {H : Hp} {v : V} {d : PyData} {σ : L2.St} {i : Nat} {te ta tb tc : TE} {x y w : V} {r r' : R2}
theorem ev_chain {a b : Bool} (ha : Ev ta σ H x) (hb : Ev tb σ H y) (hc : Ev tc σ H w) (h1 : ∀ H, RV r x y H (.bl a)) (h2 : ∀ H, RV r' y w H (.bl b)) : Ev (tChain r r' ta tb tc) σ H (.bl (a && b)) := fun H1 e Q k =>
  ha H1 e _ fun H2 e2 => hb H2 (e.trans e2) _ fun H3 e3 => h1 H3 H3 (Ex.refl _) _ fun H4 e4 => ⟨a, rfl, by
    cases a with
    | true =>
      rw [if_pos rfl]
      exact hc H4 (((e.trans e2).trans e3).trans e4) _ fun H5 e5 => h2 H5 H5 (Ex.refl _) _ fun H6 e6 => k H6 ((((e2.trans e3).trans e4).trans e5).trans e6)
    | false =>
      rw [if_neg (by decide)]
      exact k H4 ((e2.trans e3).trans e4)⟩
mutual
theorem Dq.dp : ∀ (d : PyData) (v : V), d.hasDict = false → Dq K p H v d → Dp K H v d
  | _, _, _, .non => .non
  | _, _, _, .bl b => .bl b
  | _, _, _, .int i => .int i
  | _, _, _, .str x => .str x
  | _, _, h0, .lst n m h hs => .lst (SqL.of h) (DqAll.dp _ _ (by simpa [PyData.hasDict] using h0) hs)
  | _, _, h0, .tup h hs => .tup h (DqAll.dp _ _ (by simpa [PyData.hasDict] using h0) hs)
  | _, _, h0, .emp h => by simp [PyData.hasDict] at h0
theorem DqAll.dp : ∀ (ds : List PyData) (vs : List V), PyData.hasDictAll ds = false → DqAll K p H vs ds → DpAll K H vs ds
  | _, _, _, .nil => .nil
  | _, _, h0, .cons h hs => by
    simp only [PyData.hasDictAll, Bool.or_eq_false_iff] at h0
    exact .cons (Dq.dp _ _ h0.1 h) (DqAll.dp _ _ h0.2 hs)
end
end
/-! ### tests that come out false -/
section
variable {K : PySem.W.Frag} {σ : L2.St} {H : Hp} {D : Ends} {t : TT} {tu tw : TS}
theorem yes_of {Q : Bool → Hp → Prop} (h : Q true H) : tYes σ H Q := h
theorem s_skip (h : EvT t σ H false) (k : ∀ H1, Ex H H1 → D.nx σ H1) : tIfS t tu tNext D σ H := s_if h (fun z => nomatch z) fun _ H1 e => k H1 e
theorem dec_ne {x y : Int} (h : x = y) : (!decide (V.int x = V.int y)) = false := by subst h; simp
theorem dec_neQ {x y : Rat} (h : x = y) : (!decide (x = y)) = false := by subst h; simp
theorem or_ff {a b : Bool} (h : a = false) (h' : b = false) : (a || b) = false := by subst h h'; rfl
/-- the test «two fractions differ» of two that are the same -/
theorem et_neF {ta tb : TE} {b c : Nat} {q r : Rat} (ha : EvP ta σ H (Fr K b q)) (hb : EvP tb σ H (Fr K c r)) (h : q = r) : EvT (tTest (tOp (rNeD K) ta tb)) σ H false := et_is (et_test (ev_neD ha hb)) (dec_neQ h)
theorem et_orF {t u : TT} (h1 : EvT t σ H false) (h2 : EvT u σ H false) : EvT (tOr t u) σ H false := et_is (et_or h1 fun _ => h2) rfl
/-- a written pair -/
theorem ep_lit {x y : Int} {q : Rat} {b : Nat} (e1 : x = q.num) (e2 : y = (q.den : Int)) (bd : Bd b q) : EvP (tTup (tCons (tC (.int x)) (tCons (tC (.int y)) tNil))) σ H (Fr K b q) := ep_tup ev_c ev_c e1 e2 bd
theorem ep_01 : EvP (tTup (tCons (tC (.int 0)) (tCons (tC (.int 1)) tNil))) σ H (Fr K 1 0) := ep_lit rfl rfl ⟨by decide, by decide⟩
end
/-! ### data that is drawn -/
section
variable {K : PySem.W.Frag} {p : Addr} {σ : L2.St} {H H' : Hp} {te ta tb : TE} {v : V} {d : PyData} {ds : List PyData} {tt : TT}
def EvD (K : PySem.W.Frag) (p : Addr) (te : TE) (σ : L2.St) (H : Hp) (d : PyData) : Prop := EvP te σ H fun v H => Dq K p H v d
def EvDs (K : PySem.W.Frag) (p : Addr) (ta : TA) (σ : L2.St) (H : Hp) (ds : List PyData) : Prop := ∀ H1, Ex H H1 → ∀ Q : List V → Hp → Prop, (∀ vs H2, Ex H1 H2 → DqAll K p H2 vs ds → Q vs H2) → ta σ H1 Q
theorem ed_ev (h : Ev te σ H v) (hd : ∀ H, Dq K p H v d) : EvD K p te σ H d := fun H1 e Q k => h H1 e Q fun H2 e2 => k v H2 e2 (hd H2)
theorem ed_var {i : Nat} (h : σ[i]? = some (some v)) (hd : Dq K p H v d) : EvD K p (tVar i) σ H d := fun H1 e _ k => ⟨v, h, k v H1 (Ex.refl H1) (Dq.ex e _ _ hd)⟩
theorem ed_int {n : Int} : EvD K p (tC (.int n)) σ H (.int n) := ed_ev ev_c fun _ => .int n
theorem ed_neg {n : Int} : EvD K p (tUn (rU fun i => .int (-i)) (tC (.int n))) σ H (.int (-n)) := ed_ev (ev_neg ev_c) fun _ => .int _
theorem ed_bool {b : Bool} : EvD K p (tC (.bl b)) σ H (.bool b) := ed_ev ev_c fun _ => .bl b
theorem ed_none : EvD K p (tC .non) σ H .none := ed_ev ev_c fun _ => .non
theorem ed_str {x : Str} : EvD K p (tC (.str x)) σ H (.str x) := ed_ev ev_c fun _ => .str x
theorem ed_fr {b : Nat} {q : Rat} (h : EvP te σ H (Fr K b q)) : EvD K p te σ H (frd q) := fun H1 e Q k => h H1 e Q fun v H2 e2 f => k v H2 e2 f.dq
theorem eds_nil : EvDs K p tNil σ H [] := fun H1 e Q k => k [] H1 (Ex.refl H1) .nil
theorem eds_cons {tr : TA} (h : EvD K p te σ H d) (hs : EvDs K p tr σ H ds) : EvDs K p (tCons te tr) σ H (d :: ds) := fun H1 e Q k =>
  h H1 e _ fun v H2 e2 q => hs H2 (e.trans e2) _ fun vs H3 e3 qs => k _ H3 (e2.trans e3) (.cons (Dq.ex e3 _ _ q) qs)
theorem ed_tup {ta : TA} (h : EvDs K p ta σ H ds) (hl : ds.length ≤ 1000) : EvD K p (tTup ta) σ H (.tuple ds) := fun H1 e Q k =>
  h H1 e _ fun vs H2 e2 qs => ⟨Nat.le_of_lt (small1000 (by rw [qs.len]; exact hl)), fun a fa => k _ _ (e2.trans (Ex.new fa)) (.tup (SqT.of upd_same) (DqAll.ex (Ex.new fa) _ _ qs))⟩
theorem ed_lst {ta : TA} {o : HO} (hp : H p = some o) (h : EvDs K p ta σ H ds) (hl : ds.length ≤ 1000) : EvD K p (tLstN ta) σ H (.list ds) := fun H1 e Q k =>
  h H1 e _ fun vs H2 e2 qs => ⟨Nat.le_of_lt (small1000 (by rw [qs.len]; exact hl)), fun a fa fm => k _ _ (e2.trans (Ex.new fa)) (.lst (ne_of_none (e2 _ _ (e _ _ hp)) fa).symm fm upd_same (DqAll.ex (Ex.new fa) _ _ qs))⟩
end
def tI (n : Int) : TE := tC (.int n)
def tN (n : Int) : TE := tUn (rU fun i => .int (-i)) (tC (.int n))
def tP (a b : TE) : TE := tTup (tCons a (tCons b tNil))
section
variable {K : PySem.W.Frag} {p : Addr} {σ : L2.St} {H : Hp} {a b : TE} {d e : PyData} {v : V} {q r : Rat}
theorem ed_I {n : Int} : EvD K p (tI n) σ H (.int n) := ed_int
theorem ed_N {n : Int} : EvD K p (tN n) σ H (.int (-n)) := ed_neg
theorem ed_P (h : EvD K p a σ H d) (g : EvD K p b σ H e) : EvD K p (tP a b) σ H (.tuple [d, e]) := ed_tup (eds_cons h (eds_cons g eds_nil)) (by show 2 ≤ 1000; decide)
def LstD (K : PySem.W.Frag) (p : Addr) (ds : List PyData) (v : V) (H : Hp) : Prop := ∃ (l : Addr) (vs : List V), v = .ref l ∧ l ≠ p ∧ l ≠ sysModules ∧ H l = some (.lst vs) ∧ DqAll K p H vs ds
def LstD0 (K : PySem.W.Frag) (p : Addr) (ds : List PyData) (v : V) (H : Hp) : Prop := ∃ (l : Addr) (vs : List V), v = .ref l ∧ l ≠ p ∧ H l = some (.lst vs) ∧ DqAll K p H vs ds
theorem LstD.to0 {ds : List PyData} (h : LstD K p ds v H) : LstD0 K p ds v H := by
  obtain ⟨l, vs, rfl, n, m, h, q⟩ := h
  exact ⟨l, vs, rfl, n, h, q⟩
theorem el_lst {tm : TA} {ds : List PyData} {o : HO} (hh : H p = some o) (hm : EvDs K p tm σ H ds) (hl : ds.length ≤ 900) : EvP (tLstN tm) σ H (LstD K p ds) := fun H1 e Q k =>
  hm H1 e _ fun vs H2 e2 qs => ⟨Nat.le_of_lt (small1000 (by rw [qs.len]; omega)), fun l fl fm => k _ _ (e2.trans (Ex.new fl)) ⟨l, vs, rfl, (ne_of_none (e2 _ _ (e _ _ hh)) fl).symm, fm, upd_same, DqAll.ex (Ex.new fl) _ _ qs⟩⟩
end
/-! ### tables -/
section
variable {P : Program} {w : World} {K : PySem.W.Frag} {mg : Str → Option Value} {base : Heap}
/-- a def by its body, its code object known -/
theorem okC {x qual : Str} {st : Stmt} {f c : Addr} {fd : FuncData} {N ps : List Str} {k : Nat} {sp : Sp} (F : Fun K x qual st f fd) (hc : fd.code = .ref c) (S : FnScope N ps (defScope st)) (len : ∀ vs H Q E, sp vs H Q E → vs.length = ps.length)
    (body : ∀ (A : Around) (outer : List Env) (s : Shared) (H : Hp) (vs : List V) (Q : VK) (E : XK), Room k (A.deeper (envOfC qual (defScope st) s.heap.objs.size f (.ref c))) → sp vs H Q E →
      ∃ t, PSs (cxOf CX0 P w K mg base N qual (defScope st) f (.ref c) A outer s H E).nox (defBody st) t ∧ t { nx := fun _ H' => Q .non H', rt := Q } (start N vs) H) : FnOk P w K mg base CX0 (k + 1) f fd ps sp := by
  obtain ⟨oc, od, kV, doc, pm, an, cdv, ct, osl, rfl, lk, hcd⟩ := F.ex
  obtain rfl : cdv = .ref c := hc
  apply fn_of lk hcd S len
  intro A outer s H vs Q E hr hsp
  obtain ⟨t, h, q⟩ := body A outer s H vs Q E hr hsp
  exact ⟨t, h.nox, q⟩
end
theorem n_name {i : Nat} {v : V} {σ : L2.St} {H : Hp} {N : L2.St → Hp → Prop} (h : N (σ.set i (some v)) H) : gName i v σ H N := h
theorem n_next {D : Ends} {σ : L2.St} {H : Hp} (h : D.nx σ H) : tNext D σ H := h
theorem num_pos_iff (q : Rat) : 0 < q.num ↔ 0 < q := by
  have h1 : (0 : Int) ≤ q.num ↔ 0 ≤ q := Rat.num_nonneg
  have h2 : q.num = 0 ↔ q = 0 := Rat.num_eq_zero
  constructor
  · intro h
    have a := h1.mp (by omega)
    have b : q ≠ 0 := fun e => by have := h2.mpr e; omega
    grind
  · intro h
    have a := h1.mpr (by grind)
    have b : q.num ≠ 0 := fun e => by have := h2.mp e; grind
    omega
section
variable {P : Program} {w : World} {K : PySem.W.Frag} {mg : Str → Option Value} {base : Heap}
theorem ok_lowest (T : Txt K mg) : FnOk P w K mg base CX0 1 T.d_lowest.a T.d_lowest.fd ["top", "bottom"] (spLow K) := by
  refine T.d_lowest.F.ok sc_lowest (fun vs H Q E h => ?_) (fun cdv A outer s H vs Q E hr h => ?_)
  · obtain ⟨n, d, b, rfl, _⟩ := h
    rfl
  · obtain ⟨n, d, b, rfl, hd, hn, hb, hl, k⟩ := h
    refine ⟨_, (pss_cons (ps_set (i := 2) sc_lowest.nd rfl (Or.inl rfl) (pe_callBfun cr_gcd (by rfl) T.n_gcd (pa_cons (pv 0) (pa_cons (pv 1) pa_nil))))
      (pss_cons (ps_if (pt_cmpR op_lt (pv 1) pe_int (nomark _)) (pss_one (ps_set (i := 2) sc_lowest.nd rfl (Or.inl rfl) (pe_un un_neg (pv 2)))) pss_nil)
      (pss_one (ps_ret (pe_tup (pa_cons (pe_op op_fdivZ (pv 0) (pv 2)) (pa_cons (pe_op op_fdivZ (pv 1) (pv 2)) pa_nil))))))), ?_⟩
    have e := lowest_eq n d hd
    have hG : Nat.gcd n.natAbs d.natAbs ≤ d.natAbs := Nat.gcd_le_right _ (by omega)
    have hp := gcd_pos (n := n) hd
    refine ⟨_, rfl, _, rfl, n, d, rfl, ?_⟩
    refine ⟨_, rfl, d, 0, rfl, rfl, _, rfl, ite2 (fun c => ?_) (fun c => ?_)⟩
    · have c' : d < 0 := of_decide_eq_true c
      rw [if_pos c'] at e
      refine ⟨_, rfl, _, rfl, ?_⟩
      have hz : ∀ i : Int, CDivZ i (-((Nat.gcd n.natAbs d.natAbs : Nat) : Int)) := fun _ => ⟨by omega, by
        have : (-((Nat.gcd n.natAbs d.natAbs : Nat) : Int)).natAbs = Nat.gcd n.natAbs d.natAbs := by omega
        rw [this]
        exact log_lt (Nat.lt_of_le_of_lt hG hb) (by omega : b ≤ 9000) (by decide)⟩
      exact s_retP (ep_tup (b := b) (ev_fdivZ (ev_var rfl) (ev_var rfl) (hz _)) (ev_fdivZ (ev_var rfl) (ev_var rfl) (hz _)) e.1 e.2 (bd_divInt hd hn hb)) fun z H1 e w => k z H1 e w
    · have c' : ¬ d < 0 := fun z => c (decide_eq_true z)
      rw [if_neg c'] at e
      have hz : ∀ i : Int, CDivZ i ((Nat.gcd n.natAbs d.natAbs : Nat) : Int) := fun _ => ⟨by omega, by
        have : ((Nat.gcd n.natAbs d.natAbs : Nat) : Int).natAbs = Nat.gcd n.natAbs d.natAbs := by omega
        rw [this]
        exact log_lt (Nat.lt_of_le_of_lt hG hb) (by omega : b ≤ 9000) (by decide)⟩
      exact s_retP (ep_tup (b := b) (ev_fdivZ (ev_var rfl) (ev_var rfl) (hz _)) (ev_fdivZ (ev_var rfl) (ev_var rfl) (hz _)) e.1 e.2 (bd_divInt hd hn hb)) fun z H1 e w => k z H1 e w
theorem ok_add (T : Txt K mg) : FnOk P w K mg base CX0 2 T.d_add.a T.d_add.fd ["one", "other"] (sp2 K (fun _ => True) fun q r => q + r) := by
  refine T.d_add.F.ok sc_add (fun vs H Q E h => ?_) (fun cdv A outer s H vs Q E hr h => ?_)
  · obtain ⟨u, v, b, c, q, r, rfl, _⟩ := h
    rfl
  · obtain ⟨u, v, b, c, q, r, rfl, f, g, hl, _, k⟩ := h
    refine ⟨_, (pss_one (ps_ret (pe_call (ok_lowest T) (hr.mono (by decide)) (by rfl) T.d_lowest.g T.d_lowest.F.kp T.d_lowest.b .nil pass0 (pa_cons (pe_op op_add (pe_op op_mulW (pe_ix ix_tup (pv 0) pe_int (fun _ _ => rfl)) (pe_ix ix_tup (pv 1) pe_int (fun _ _ => rfl))) (pe_op op_mulW (pe_ix ix_tup (pv 1) pe_int (fun _ _ => rfl)) (pe_ix ix_tup (pv 0) pe_int (fun _ _ => rfl)))) (pa_cons (pe_op op_mulW (pe_ix ix_tup (pv 0) pe_int (fun _ _ => rfl)) (pe_ix ix_tup (pv 1) pe_int (fun _ _ => rfl))) pa_nil))))), ?_⟩
    have F := @ep_var K (start n_add [u, v]) H u b q 0 rfl f
    have G := @ep_var K (start n_add [u, v]) H v c r 1 rfl g
    have x := f.bd
    have y := g.bd
    exact s_retP (ep_Low (b := b + c + 1) (ev_add (ev_mulW (ev_0 F) (ev_1 G) (mulW x.1 (bd_den y) (by omega))) (ev_mulW (ev_0 G) (ev_1 F) (mulW y.1 (bd_den x) (by omega)))) (ev_mulW (ev_1 F) (ev_1 G) (mulW (bd_den x) (bd_den y) (by omega)))
      (Int.mul_ne_zero (den_ne q) (den_ne r)) (bn_add (bn_mul x.1 (bd_den y)) (by rw [Nat.add_comm b c]; exact bn_mul y.1 (bd_den x))) (lt_pow_mono (Nat.le_succ _) (bn_mul (bd_den x) (bd_den y))) hl (add_eq q r)) fun z H1 e w => k z H1 e w
theorem ok_multiply (T : Txt K mg) : FnOk P w K mg base CX0 2 T.d_multiply.a T.d_multiply.fd ["one", "other"] (sp2 K (fun _ => True) fun q r => q * r) := by
  refine T.d_multiply.F.ok sc_multiply (fun vs H Q E h => ?_) (fun cdv A outer s H vs Q E hr h => ?_)
  · obtain ⟨u, v, b, c, q, r, rfl, _⟩ := h
    rfl
  · obtain ⟨u, v, b, c, q, r, rfl, f, g, hl, _, k⟩ := h
    refine ⟨_, (pss_one (ps_ret (pe_call (ok_lowest T) (hr.mono (by decide)) (by rfl) T.d_lowest.g T.d_lowest.F.kp T.d_lowest.b .nil pass0 (pa_cons (pe_op op_mulW (pe_ix ix_tup (pv 0) pe_int (fun _ _ => rfl)) (pe_ix ix_tup (pv 1) pe_int (fun _ _ => rfl))) (pa_cons (pe_op op_mulW (pe_ix ix_tup (pv 0) pe_int (fun _ _ => rfl)) (pe_ix ix_tup (pv 1) pe_int (fun _ _ => rfl))) pa_nil))))), ?_⟩
    have F := @ep_var K (start n_multiply [u, v]) H u b q 0 rfl f
    have G := @ep_var K (start n_multiply [u, v]) H v c r 1 rfl g
    have x := f.bd
    have y := g.bd
    exact s_retP (ep_Low (b := b + c + 1) (ev_mulW (ev_0 F) (ev_0 G) (mulW x.1 y.1 (by omega))) (ev_mulW (ev_1 F) (ev_1 G) (mulW (bd_den x) (bd_den y) (by omega)))
      (Int.mul_ne_zero (den_ne q) (den_ne r)) (lt_pow_mono (Nat.le_succ _) (bn_mul x.1 y.1)) (lt_pow_mono (Nat.le_succ _) (bn_mul (bd_den x) (bd_den y))) hl (mul_eq q r)) fun z H1 e w => k z H1 e w
theorem ok_divide (T : Txt K mg) : FnOk P w K mg base CX0 2 T.d_divide.a T.d_divide.fd ["one", "other"] (sp2 K (fun r => r ≠ 0) fun q r => q / r) := by
  refine T.d_divide.F.ok sc_divide (fun vs H Q E h => ?_) (fun cdv A outer s H vs Q E hr h => ?_)
  · obtain ⟨u, v, b, c, q, r, rfl, _⟩ := h
    rfl
  · obtain ⟨u, v, b, c, q, r, rfl, f, g, hl, h0, k⟩ := h
    refine ⟨_, (pss_one (ps_ret (pe_call (ok_lowest T) (hr.mono (by decide)) (by rfl) T.d_lowest.g T.d_lowest.F.kp T.d_lowest.b .nil pass0 (pa_cons (pe_op op_mulW (pe_ix ix_tup (pv 0) pe_int (fun _ _ => rfl)) (pe_ix ix_tup (pv 1) pe_int (fun _ _ => rfl))) (pa_cons (pe_op op_mulW (pe_ix ix_tup (pv 0) pe_int (fun _ _ => rfl)) (pe_ix ix_tup (pv 1) pe_int (fun _ _ => rfl))) pa_nil))))), ?_⟩
    have F := @ep_var K (start n_divide [u, v]) H u b q 0 rfl f
    have G := @ep_var K (start n_divide [u, v]) H v c r 1 rfl g
    have x := f.bd
    have y := g.bd
    exact s_retP (ep_Low (b := b + c + 1) (ev_mulW (ev_0 F) (ev_1 G) (mulW x.1 (bd_den y) (by omega))) (ev_mulW (ev_1 F) (ev_0 G) (mulW (bd_den x) y.1 (by omega)))
      (Int.mul_ne_zero (den_ne q) (num_ne h0)) (lt_pow_mono (Nat.le_succ _) (bn_mul x.1 (bd_den y))) (lt_pow_mono (Nat.le_succ _) (bn_mul (bd_den x) y.1)) hl (div_eq q r)) fun z H1 e w => k z H1 e w

/-- above 0 and below 1 -/
def prpB (d : PyData) : Bool := frB d && (decide (0 < (frQ d).num) && decide ((frQ d).num < ((frQ d).den : Int)))
def spLt (K : PySem.W.Frag) : Sp := fun vs H Q _ => ∃ (u v : V) (b c : Nat) (q r : Rat), vs = [u, v] ∧ Fr K b q u H ∧ Fr K c r v H ∧ b + c ≤ 8000 ∧ ∀ H', Ex H H' → Q (.bl (decide (q < r))) H'
theorem lt_num (q r : Rat) : decide (q.num * (r.den : Int) < r.num * (q.den : Int)) = decide (q < r) := by
  rw [Bool.eq_iff_iff, decide_eq_true_iff, decide_eq_true_iff]
  exact (Rat.lt_iff q r).symm
theorem ok_is_proper (T : Txt K mg) : FnOk P w K mg base CX0 3 T.d_is_proper.a T.d_is_proper.fd ["value"] (spIsD K Any prpB) := by
  refine T.d_is_proper.F.ok sc_is_proper (fun vs H Q E h => ?_) (fun cdv A outer s H vs Q E hr h => ?_)
  · obtain ⟨p, v, d, rfl, _⟩ := h
    rfl
  · obtain ⟨p, v, d, rfl, hd, _, k⟩ := h
    refine ⟨_, (pss_one (ps_ret (pe_and (pe_call (ok_is_fraction T) (hr.mono (by decide)) (by rfl) T.d_is_fraction.g T.d_is_fraction.F.kp T.d_is_fraction.b .nil pass0 (pa_cons (pv 0) pa_nil)) (pe_one (pe_chain op_lt op_lt pe_int (pe_ix ix_tup (pv 0) pe_int (fun _ _ => rfl)) (pe_ix ix_tup (pv 0) pe_int (fun _ _ => rfl))))))), ?_⟩
    refine s_ret (ev_andV (b := decide (0 < (frQ d).num) && decide ((frQ d).num < ((frQ d).den : Int))) (ev_isD (ev_var rfl) hd trivial) fun hb => ?_) fun H1 e => k H1 e
    have hq := frB_iff hb
    have hd' : Dq K p H v (.tuple [.int (frQ d).num, .int ((frQ d).den : Int)]) := by
      rw [hq] at hd
      exact hd
    have i0 : Ev (tOp (rIxT K) (tVar 0) (tC (.int 0))) [some v] H (.int (frQ d).num) := fun H1 e1 Q kk => ed_ix (K := K) (p := p) (j := 0) rfl hd' rfl H1 e1 _ fun x H2 e2 q => by
      cases q with
      | int n => exact kk H2 e2
    have i1 : Ev (tOp (rIxT K) (tVar 0) (tC (.int 1))) [some v] H (.int ((frQ d).den : Int)) := fun H1 e1 Q kk => ed_ix (K := K) (p := p) (j := 1) rfl hd' rfl H1 e1 _ fun x H2 e2 q => by
      cases q with
      | int n => exact kk H2 e2
    exact ev_chain ev_c i0 i1 (fun H => rv_I0) fun H => rv_I0
theorem ok_is_below (T : Txt K mg) : FnOk P w K mg base CX0 1 T.d_is_below.a T.d_is_below.fd ["one", "other"] (spLt K) := by
  refine T.d_is_below.F.ok sc_is_below (fun vs H Q E h => ?_) (fun cdv A outer s H vs Q E hr h => ?_)
  · obtain ⟨u, v, b, c, q, r, rfl, _⟩ := h
    rfl
  · obtain ⟨u, v, b, c, q, r, rfl, f, g, hl, k⟩ := h
    refine ⟨_, (pss_one (ps_ret (pe_cmpR op_lt (pe_op op_mulW (pe_ix ix_tup (pv 0) pe_int (fun _ _ => rfl)) (pe_ix ix_tup (pv 1) pe_int (fun _ _ => rfl))) (pe_op op_mulW (pe_ix ix_tup (pv 1) pe_int (fun _ _ => rfl)) (pe_ix ix_tup (pv 0) pe_int (fun _ _ => rfl))) (nomark _)))), ?_⟩
    have F := @ep_var K (start n_is_below [u, v]) H u b q 0 rfl f
    have G := @ep_var K (start n_is_below [u, v]) H v c r 1 rfl g
    have x := f.bd
    have y := g.bd
    refine s_ret (ev_op (ev_mulW (ev_0 F) (ev_1 G) (mulW x.1 (bd_den y) (by omega))) (ev_mulW (ev_0 G) (ev_1 F) (mulW y.1 (bd_den x) (by omega))) rv_I0) fun H1 e => ?_
    rw [lt_num]
    exact k H1 e
/-- the greatest of some, from m on -/
def maxQ : Rat → List Rat → Rat
  | m, [] => m
  | m, q :: qs => maxQ (if m < q then q else m) qs
theorem maxQ_app (m : Rat) : ∀ (xs : List Rat) (q : Rat), maxQ m (xs ++ [q]) = if maxQ m xs < q then q else maxQ m xs
  | [], q => rfl
  | x :: xs, q => by
    show maxQ (if m < x then x else m) (xs ++ [q]) = _
    rw [maxQ_app]
    rfl
def spGreat (K : PySem.W.Frag) : Sp := fun vs H Q _ => ∃ (p l : Addr) (xs : List V) (qs : List Rat) (b : Nat), vs = [.ref l] ∧ H l = some (.lst xs) ∧ DqAll K p H xs (qs.map frd) ∧ (∀ q ∈ qs, Bd b q) ∧ b ≤ 4000 ∧ qs ≠ [] ∧
  ∀ z H', Ex H H' → Fr K b (maxQ (qs.headD 0) qs) z H' → Q z H'
theorem DqAll.fr_at {K : PySem.W.Frag} {p : Addr} {H : Hp} {xs : List V} {qs : List Rat} {b i : Nat} {x : V} (h : DqAll K p H xs (qs.map frd)) (hb : ∀ q ∈ qs, Bd b q) (e : xs[i]? = some x) : ∃ q, qs[i]? = some q ∧ Fr K b q x H := by
  have il : i < xs.length := (List.getElem?_eq_some_iff.mp e).1
  have l := h.len
  rw [List.length_map] at l
  have e2 : qs[i]? = some qs[i] := List.getElem?_eq_getElem (by omega)
  obtain ⟨x', h1, h2⟩ := h.get (j := i) (dj := frd qs[i]) (by rw [List.getElem?_map, e2]; rfl)
  rw [e] at h1
  cases h1
  refine ⟨_, e2, ?_⟩
  have := h2.fr (b := b) (frB_frd _) (by rw [frQ_frd]; exact hb _ (List.getElem_mem _))
  rwa [frQ_frd] at this
theorem ok_greatest (T : Txt K mg) : FnOk P w K mg base CX0 2 T.d_greatest.a T.d_greatest.fd ["fractions"] (spGreat K) := by
  refine T.d_greatest.F.ok sc_greatest (fun vs H Q E h => ?_) (fun cdv A outer s H vs Q E hr h => ?_)
  · obtain ⟨p, l, xs, qs, b, rfl, _⟩ := h
    rfl
  · obtain ⟨p, l, xs, qs, b, rfl, hl, hA, hb, b4, hne, k⟩ := h
    refine ⟨_, (pss_cons (ps_set (i := 1) sc_greatest.nd rfl (Or.inl rfl) (pe_ix ix_list (pv 0) pe_int (fun _ _ => rfl)))
      (pss_cons (ps_for PassesOwn.never rfl (pi_list (pv 0)) (pg_name (i := 2) sc_greatest.nd rfl (Or.inl rfl)) (pss_one (ps_if (pt_val (pe_call (ok_is_below T) (hr.mono (by decide)) (by rfl) T.d_is_below.g T.d_is_below.F.kp T.d_is_below.b .nil pass0 (pa_cons (pv 1) (pa_cons (pv 2) pa_nil)))) (pss_one (ps_set (i := 1) sc_greatest.nd rfl (Or.inl rfl) (pv 2))) pss_nil)))
      (pss_one (ps_ret (pv 1))))), ?_⟩
    have xl : xs.length = qs.length := by rw [hA.len, List.length_map]
    cases qs with
    | nil => exact absurd rfl hne
    | cons q0 qs =>
    obtain ⟨x0, hx0⟩ : ∃ x0, xs[0]? = some x0 := ⟨_, List.getElem?_eq_getElem (by rw [xl]; exact Nat.succ_pos _)⟩
    obtain ⟨q0', e0, f0⟩ := hA.fr_at hb hx0
    cases e0
    refine n_seq ?_
    refine ⟨_, rfl, l, xs, 0, x0, rfl, rfl, SqL.of hl, atI_nat (j := 0) hx0, ?_⟩
    dsimp only
    refine n_seq ?_
    refine ⟨_, rfl, l, rfl, ⟨_, SqL.of hl⟩, ?_⟩
    refine for_list (K := K) (a := l) (xs := xs) (fun i σ G => Ex H G ∧ ∃ (z : V) (y : Option V), σ = [some (.ref l), some z, y] ∧ Fr K b (maxQ q0 ((q0 :: qs).take i)) z G) ⟨Ex.refl H, x0, none, rfl, f0⟩ (fun i σ G _ h => SqL.of (h.1 _ _ hl)) ?_ ?_
    · rintro i x σ G hx ⟨ex, z, y, rfl, fz⟩
      obtain ⟨q, eq, fx⟩ := (DqAll.ex ex _ _ hA).fr_at hb hx
      refine n_name ?_
      dsimp only
      have e1 : (q0 :: qs).take (i + 1) = (q0 :: qs).take i ++ [q] := by
        rw [List.take_succ, eq]
        rfl
      refine ⟨_, rfl, _, rfl, z, x, b, b, _, q, rfl, fz, fx, by omega, fun G2 e2 => ⟨_, rfl, ?_⟩⟩
      by_cases c : maxQ q0 ((q0 :: qs).take i) < q
      · rw [decide_eq_true c]
        refine iteT ?_
        refine ⟨_, rfl, ?_⟩
        refine ⟨ex.trans e2, x, _, rfl, ?_⟩
        rw [e1, maxQ_app, if_pos c]
        exact fx.ex e2
      · rw [decide_eq_false c]
        refine iteF ?_
        refine n_next ?_
        refine ⟨ex.trans e2, z, _, rfl, ?_⟩
        rw [e1, maxQ_app, if_neg c]
        exact fz.ex e2
    · rintro σ G ⟨ex, z, y, rfl, fz⟩
      rw [xl, List.take_length] at fz
      exact ⟨_, rfl, k z G ex fz⟩
end
/-! ### the law's own arithmetic -/
section
variable {K : PySem.W.Frag} {σ : L2.St} {H : Hp} {ta tb : TE} {b c n : Nat} {q r : Rat}
def spGcdL : Sp := fun vs H Q _ => ∃ n d : Int, vs = [.int n, .int d] ∧ ∀ H', H' = H → Q (.int ((Nat.gcd n.natAbs d.natAbs : Nat) : Int)) H'
def spLowL (K : PySem.W.Frag) : Sp := fun vs H Q _ => ∃ (n d : Int) (b : Nat), vs = [.int n, .int d] ∧ 0 < d ∧ n.natAbs < 2 ^ b ∧ d.natAbs < 2 ^ b ∧ b ≤ 1900 ∧ ∀ z H', Ex H H' → Fr K b (Rat.divInt n d) z H' → Q z H'
def sp2L (K : PySem.W.Frag) (ok : Rat → Prop) (f : Rat → Rat → Rat) : Sp := fun vs H Q _ => ∃ (u v : V) (b c : Nat) (q r : Rat), vs = [u, v] ∧ Fr K b q u H ∧ Fr K c r v H ∧ b + c + 1 ≤ 1900 ∧ ok r ∧
  ∀ z H', Ex H H' → Fr K (b + c + 1) (f q r) z H' → Q z H'
theorem ep_2L {ok : Rat → Prop} {f : Rat → Rat → Rat} {E : XK} (ha : EvP ta σ H (Fr K b q)) (hb : EvP tb σ H (Fr K c r)) (hk : ok r) (hl : b + c + 1 ≤ 1900) (hn : b + c + 1 = n) : EvP (tCall (sp2L K ok f) [] E (tCons ta (tCons tb tNil))) σ H (Fr K n (f q r)) := fun H1 a Q k =>
  ha H1 a _ fun x H2 a2 g => hb H2 (a.trans a2) _ fun y H3 a3 h => ⟨x, y, b, c, q, r, rfl, g.ex a3, h, hl, hk, fun z H' e w => k z H' ((a2.trans a3).trans e) (by subst hn; exact w)⟩
theorem ep_LowL {E : XK} {x y : Int} (ha : Ev ta σ H (.int x)) (hb : Ev tb σ H (.int y)) (hd : 0 < y) (hx : x.natAbs < 2 ^ b) (hy : y.natAbs < 2 ^ b) (hl : b ≤ 1900) (hq : Rat.divInt x y = q) : EvP (tCall (spLowL K) [] E (tCons ta (tCons tb tNil))) σ H (Fr K b q) := fun H1 a Q k =>
  ha H1 a _ fun H2 a2 => hb H2 (a.trans a2) _ fun H3 a3 => ⟨x, y, b, rfl, hd, hx, hy, hl, fun z H' e w => k z H' ((a2.trans a3).trans e) (by subst hq; exact w)⟩
theorem denI_pos (q : Rat) : (0 : Int) < q.den := by
  have := q.den_pos
  omega
end
theorem nat_abs_if (n : Int) : (if n < 0 then -n else n) = ((n.natAbs : Nat) : Int) := by
  by_cases h : n < 0
  · rw [if_pos h]; omega
  · rw [if_neg h]; omega
section
variable {P : Program} {w : World} {K : PySem.W.Frag} {mg : Str → Option Value} {base : Heap}
theorem ok__law_divisor (T : Txt K mg) : FnOk P w K mg base CX0 1 T.d__law_divisor.a T.d__law_divisor.fd ["_law_one_here", "_law_other"] spGcdL := by
  refine T.d__law_divisor.F.ok sc__law_divisor (fun vs H Q E h => ?_) (fun cdv A outer s H vs Q E hr h => ?_)
  · obtain ⟨n, d, rfl, _⟩ := h
    rfl
  · obtain ⟨n, d, rfl, k⟩ := h
    refine ⟨_, (pss_cons (ps_par (i := 0) (j := 1) (by rfl) sc__law_divisor.nd rfl rfl (by decide) rfl rfl (pa_cons (pe_callB call_abs (by rfl) T.n_abs (by decide +kernel) (pa_cons (pv 0) pa_nil)) (pa_cons (pe_callB call_abs (by rfl) T.n_abs (by decide +kernel) (pa_cons (pv 1) pa_nil)) pa_nil)) (by rfl))
      (pss_cons (ps_while PassesOwn.never (pt_cmpR op_gt (pv 1) pe_int (nomark _)) (pss_one (ps_par (i := 0) (j := 1) (by rfl) sc__law_divisor.nd rfl rfl (by decide) rfl rfl (pa_cons (pv 1) (pa_cons (pe_op op_mod (pe_callTy call_int1 (by rfl) T.n_int (by decide +kernel) (pa_cons (pv 0) pa_nil)) (pv 1)) pa_nil)) (by rfl))))
      (pss_one (ps_ret (pv 0))))), ?_⟩
    refine n_seq ?_
    refine ⟨_, rfl, n, rfl, _, rfl, d, rfl, _, _, rfl, ?_⟩
    rw [nat_abs_if, nat_abs_if]
    dsimp only
    refine n_seq ?_
    refine while_by (fun σ G => G = H ∧ ∃ a c : Nat, σ = [some (.int a), some (.int c)] ∧ Nat.gcd a c = Nat.gcd n.natAbs d.natAbs)
      (fun σ _ => match σ[1]? with
        | some (some (V.int m)) => m.toNat
        | _ => 0) ⟨rfl, n.natAbs, d.natAbs, rfl, rfl⟩ ?_ ?_
    · rintro σ G ⟨rfl, a, c, rfl, hg⟩
      refine ⟨_, rfl, _, _, rfl, rfl, _, rfl, ?_⟩
      refine ite2 (fun w => ?_) (fun w => ?_)
      · have hc : 0 < (c : Int) := of_decide_eq_true w
        refine ⟨_, rfl, _, rfl, .inl ⟨_, rfl, _, rfl, a, c, rfl, rfl, hc, _, _, rfl, ?_⟩⟩
        refine ⟨⟨rfl, c, a % c, ?_, gcd_step hg⟩, ?_⟩
        · rw [Int.natCast_emod]
          rfl
        · show ((a : Int) % (c : Int)).toNat < (c : Int).toNat
          have := Nat.mod_lt a (show c > 0 by omega)
          rw [← Int.natCast_emod]
          omega
      · have hc : c = 0 := by
          by_cases hc : c = 0
          · exact hc
          · exact absurd (decide_eq_true (show (0 : Int) < (c : Int) by omega)) w
        subst hc
        have ha : a = Nat.gcd n.natAbs d.natAbs := gcd_end hg
        subst ha
        exact ⟨_, rfl, k _ rfl⟩
    · rintro σ G Q Q' hq ⟨x, h1, i, j, h2, h3, b, h4, h5⟩
      exact ⟨x, h1, i, j, h2, h3, b, h4, hq _ _ h5⟩
theorem ok__law_frac (T : Txt K mg) : FnOk P w K mg base CX0 2 T.d__law_frac.a T.d__law_frac.fd ["_law_top", "_law_bottom"] (spLowL K) := by
  refine T.d__law_frac.F.ok sc__law_frac (fun vs H Q E h => ?_) (fun cdv A outer s H vs Q E hr h => ?_)
  · obtain ⟨n, d, b, rfl, _⟩ := h
    rfl
  · obtain ⟨n, d, b, rfl, hd, hn, hb, hl, k⟩ := h
    refine ⟨_, (pss_cons (ps_set (i := 2) sc__law_frac.nd rfl (Or.inl rfl) (pe_call (ok__law_divisor T) (hr.mono (by decide)) (by rfl) T.d__law_divisor.g T.d__law_divisor.F.kp T.d__law_divisor.b .nil pass0 (pa_cons (pv 0) (pa_cons (pv 1) pa_nil))))
      (pss_one (ps_ret (pe_tup (pa_cons (pe_op op_fdivZ (pv 0) (pv 2)) (pa_cons (pe_op op_fdivZ (pv 1) (pv 2)) pa_nil)))))), ?_⟩
    refine n_seq ?_
    refine ⟨_, rfl, _, rfl, n, d, rfl, fun _ e => ?_⟩
    subst e
    dsimp only
    have hd0 : d ≠ 0 := by omega
    have hG : Nat.gcd n.natAbs d.natAbs ≤ d.natAbs := Nat.gcd_le_right _ (by omega)
    have hp := gcd_pos (n := n) hd0
    have hz : ∀ i : Int, CDivZ i ((Nat.gcd n.natAbs d.natAbs : Nat) : Int) := fun _ => ⟨by omega, by
      have : ((Nat.gcd n.natAbs d.natAbs : Nat) : Int).natAbs = Nat.gcd n.natAbs d.natAbs := by omega
      rw [this]
      exact log_lt (Nat.lt_of_le_of_lt hG hb) (by omega : b ≤ 9000) (by decide)⟩
    have fd : ∀ i : Int, i.fdiv ((Nat.gcd n.natAbs d.natAbs : Nat) : Int) = i / ((Nat.gcd n.natAbs d.natAbs : Nat) : Int) := fun i => Int.fdiv_eq_ediv_of_nonneg i (by omega)
    have e := low_eq n d hd0 1 (by rw [if_neg (by omega)])
    rw [Int.one_mul, Int.one_mul] at e
    exact s_retP (ep_tup (b := b) (ev_fdivZ (ev_var rfl) (ev_var rfl) (hz _)) (ev_fdivZ (ev_var rfl) (ev_var rfl) (hz _)) (by rw [fd]; exact e.1) (by rw [fd]; exact e.2) (bd_divInt hd0 hn hb)) fun z H1 e w => k z H1 e w
theorem ok__law_add (T : Txt K mg) : FnOk P w K mg base CX0 3 T.d__law_add.a T.d__law_add.fd ["_law_one_here", "_law_other"] (sp2L K (fun _ => True) fun q r => q + r) := by
  refine T.d__law_add.F.ok sc__law_add (fun vs H Q E h => ?_) (fun cdv A outer s H vs Q E hr h => ?_)
  · obtain ⟨u, v, b, c, q, r, rfl, _⟩ := h
    rfl
  · obtain ⟨u, v, b, c, q, r, rfl, f, g, hl, _, k⟩ := h
    refine ⟨_, (pss_one (ps_ret (pe_call (ok__law_frac T) (hr.mono (by decide)) (by rfl) T.d__law_frac.g T.d__law_frac.F.kp T.d__law_frac.b .nil pass0 (pa_cons (pe_op op_add (pe_op op_mulW (pe_ix ix_tup (pv 0) pe_int (fun _ _ => rfl)) (pe_ix ix_tup (pv 1) pe_int (fun _ _ => rfl))) (pe_op op_mulW (pe_ix ix_tup (pv 1) pe_int (fun _ _ => rfl)) (pe_ix ix_tup (pv 0) pe_int (fun _ _ => rfl)))) (pa_cons (pe_op op_mulW (pe_ix ix_tup (pv 0) pe_int (fun _ _ => rfl)) (pe_ix ix_tup (pv 1) pe_int (fun _ _ => rfl))) pa_nil))))), ?_⟩
    have F := @ep_var K (start n__law_add [u, v]) H u b q 0 rfl f
    have G := @ep_var K (start n__law_add [u, v]) H v c r 1 rfl g
    have x := f.bd
    have y := g.bd
    exact s_retP (ep_LowL (b := b + c + 1) (ev_add (ev_mulW (ev_0 F) (ev_1 G) (mulW x.1 (bd_den y) (by omega))) (ev_mulW (ev_0 G) (ev_1 F) (mulW y.1 (bd_den x) (by omega)))) (ev_mulW (ev_1 F) (ev_1 G) (mulW (bd_den x) (bd_den y) (by omega)))
      (Int.mul_pos (denI_pos q) (denI_pos r)) (bn_add (bn_mul x.1 (bd_den y)) (by rw [Nat.add_comm b c]; exact bn_mul y.1 (bd_den x))) (lt_pow_mono (Nat.le_succ _) (bn_mul (bd_den x) (bd_den y))) hl (add_eq q r)) fun z H1 e w => k z H1 e w
theorem ok__law_mul (T : Txt K mg) : FnOk P w K mg base CX0 3 T.d__law_mul.a T.d__law_mul.fd ["_law_one_here", "_law_other"] (sp2L K (fun _ => True) fun q r => q * r) := by
  refine T.d__law_mul.F.ok sc__law_mul (fun vs H Q E h => ?_) (fun cdv A outer s H vs Q E hr h => ?_)
  · obtain ⟨u, v, b, c, q, r, rfl, _⟩ := h
    rfl
  · obtain ⟨u, v, b, c, q, r, rfl, f, g, hl, _, k⟩ := h
    refine ⟨_, (pss_one (ps_ret (pe_call (ok__law_frac T) (hr.mono (by decide)) (by rfl) T.d__law_frac.g T.d__law_frac.F.kp T.d__law_frac.b .nil pass0 (pa_cons (pe_op op_mulW (pe_ix ix_tup (pv 0) pe_int (fun _ _ => rfl)) (pe_ix ix_tup (pv 1) pe_int (fun _ _ => rfl))) (pa_cons (pe_op op_mulW (pe_ix ix_tup (pv 0) pe_int (fun _ _ => rfl)) (pe_ix ix_tup (pv 1) pe_int (fun _ _ => rfl))) pa_nil))))), ?_⟩
    have F := @ep_var K (start n__law_mul [u, v]) H u b q 0 rfl f
    have G := @ep_var K (start n__law_mul [u, v]) H v c r 1 rfl g
    have x := f.bd
    have y := g.bd
    exact s_retP (ep_LowL (b := b + c + 1) (ev_mulW (ev_0 F) (ev_0 G) (mulW x.1 y.1 (by omega))) (ev_mulW (ev_1 F) (ev_1 G) (mulW (bd_den x) (bd_den y) (by omega)))
      (Int.mul_pos (denI_pos q) (denI_pos r)) (lt_pow_mono (Nat.le_succ _) (bn_mul x.1 y.1)) (lt_pow_mono (Nat.le_succ _) (bn_mul (bd_den x) (bd_den y))) hl (mul_eq q r)) fun z H1 e w => k z H1 e w
theorem ok__law_over (T : Txt K mg) : FnOk P w K mg base CX0 3 T.d__law_over.a T.d__law_over.fd ["_law_one_here", "_law_other"] (sp2L K (fun r => 0 < r) fun q r => q / r) := by
  refine T.d__law_over.F.ok sc__law_over (fun vs H Q E h => ?_) (fun cdv A outer s H vs Q E hr h => ?_)
  · obtain ⟨u, v, b, c, q, r, rfl, _⟩ := h
    rfl
  · obtain ⟨u, v, b, c, q, r, rfl, f, g, hl, h0, k⟩ := h
    refine ⟨_, (pss_one (ps_ret (pe_call (ok__law_frac T) (hr.mono (by decide)) (by rfl) T.d__law_frac.g T.d__law_frac.F.kp T.d__law_frac.b .nil pass0 (pa_cons (pe_op op_mulW (pe_ix ix_tup (pv 0) pe_int (fun _ _ => rfl)) (pe_ix ix_tup (pv 1) pe_int (fun _ _ => rfl))) (pa_cons (pe_op op_mulW (pe_ix ix_tup (pv 0) pe_int (fun _ _ => rfl)) (pe_ix ix_tup (pv 1) pe_int (fun _ _ => rfl))) pa_nil))))), ?_⟩
    have F := @ep_var K (start n__law_over [u, v]) H u b q 0 rfl f
    have G := @ep_var K (start n__law_over [u, v]) H v c r 1 rfl g
    have x := f.bd
    have y := g.bd
    have np : 0 < r.num := (num_pos_iff r).mpr h0
    exact s_retP (ep_LowL (b := b + c + 1) (ev_mulW (ev_0 F) (ev_1 G) (mulW x.1 (bd_den y) (by omega))) (ev_mulW (ev_1 F) (ev_0 G) (mulW (bd_den x) y.1 (by omega)))
      (Int.mul_pos (denI_pos q) np) (lt_pow_mono (Nat.le_succ _) (bn_mul x.1 (bd_den y))) (lt_pow_mono (Nat.le_succ _) (bn_mul (bd_den x) y.1)) hl (div_eq q r)) fun z H1 e w => k z H1 e w
theorem ok__law_is_less (T : Txt K mg) : FnOk P w K mg base CX0 1 T.d__law_is_less.a T.d__law_is_less.fd ["_law_one_here", "_law_other"] (spLt K) := by
  refine T.d__law_is_less.F.ok sc__law_is_less (fun vs H Q E h => ?_) (fun cdv A outer s H vs Q E hr h => ?_)
  · obtain ⟨u, v, b, c, q, r, rfl, _⟩ := h
    rfl
  · obtain ⟨u, v, b, c, q, r, rfl, f, g, hl, k⟩ := h
    refine ⟨_, (pss_one (ps_ret (pe_cmpR op_lt (pe_op op_mulW (pe_ix ix_tup (pv 0) pe_int (fun _ _ => rfl)) (pe_ix ix_tup (pv 1) pe_int (fun _ _ => rfl))) (pe_op op_mulW (pe_ix ix_tup (pv 1) pe_int (fun _ _ => rfl)) (pe_ix ix_tup (pv 0) pe_int (fun _ _ => rfl))) (nomark _)))), ?_⟩
    have F := @ep_var K (start n__law_is_less [u, v]) H u b q 0 rfl f
    have G := @ep_var K (start n__law_is_less [u, v]) H v c r 1 rfl g
    have x := f.bd
    have y := g.bd
    refine s_ret (ev_op (ev_mulW (ev_0 F) (ev_1 G) (mulW x.1 (bd_den y) (by omega))) (ev_mulW (ev_0 G) (ev_1 F) (mulW y.1 (bd_den x) (by omega))) rv_I0) fun H1 e => ?_
    rw [lt_num]
    exact k H1 e
def spSame (K : PySem.W.Frag) : Sp := fun vs H Q _ => ∃ (p : Addr) (u v : V) (d e : PyData), vs = [u, v] ∧ Dq K p H u d ∧ Dq K p H v e ∧ Nc 900000 60 d ∧ Nc 900000 60 e ∧ ∀ H', Ex H H' → Q (.bl (decide (d.shown = e.shown))) H'
theorem ok__law_same (T : Txt K mg) : FnG P w K mg base 1 T.d__law_same.a T.d__law_same.fd ["_law_one_here", "_law_other"] (spSame K) := by
  refine okG T.d__law_same.F sc__law_same (fun vs H Q E h => ?_) (fun cdv A outer s H vs Q gd hr h => ?_)
  · obtain ⟨p, u, v, d, e, rfl, _⟩ := h
    rfl
  · obtain ⟨p, u, v, d, e, rfl, hd, he, nd, ne, k⟩ := h
    have hu := hr.units
    refine ⟨_, (pss_one (ps_ret (pe_cmpR op_eq (pe_callB (call_repr gd hu) (by rfl) T.n_repr (by decide +kernel) (pa_cons (pv 0) pa_nil)) (pe_callB (call_repr gd hu) (by rfl) T.n_repr (by decide +kernel) (pa_cons (pv 1) pa_nil)) (nomark _)))), ?_⟩
    have ld := nd.len (by decide)
    have le := ne.len (by decide)
    have big : 1000000 ≤ sizeLine := by decide
    refine ⟨u, rfl, u, d, p, rfl, .inl hd, nd.sh, nd.dp, by omega, v, rfl, v, e, p, rfl, .inl he, ne.sh, ne.dp, by omega, rfl, ?_⟩
    have z : decide (V.str d.shown = V.str e.shown) = decide (d.shown = e.shown) := by
      rw [Bool.eq_iff_iff, decide_eq_true_iff, decide_eq_true_iff, V.str.injEq]
    rw [z]
    exact k H (Ex.refl H)
end
/-! ### projects -/
theorem rd_allEv {K : PySem.W.Frag} {p : Addr} {te : TE} {f : PyData → Bool} : ∀ {vs : List V} {ds : List PyData} {H : Hp} {Q : Bool → Hp → Prop}, DqAll K p H vs ds → (∀ v d H', Dq K p H' v d → Ev te [none, some v] H' (.bl (f d))) → (∀ H', Ex H H' → Q (ds.all f) H') → rdAll te vs H Q
  | _, _, H, Q, .nil, _, k => k H (Ex.refl H)
  | _, _, H, Q, .cons (d := d) h hs, he, k => by
    refine he _ d H h H (Ex.refl H) _ fun H1 e1 => ⟨f d, rfl, fun hb => ?_, fun hb => ?_⟩
    · refine rd_allEv (DqAll.ex e1 _ _ hs) he fun H' e' => ?_
      have := k H' (e1.trans e')
      rwa [List.all_cons, hb, Bool.true_and] at this
    · have := k H1 e1
      rwa [List.all_cons, hb, Bool.false_and] at this
def intsV (ns : List Nat) : List V := ns.map fun (n : Nat) => V.int n
theorem sumI : ∀ ns : List Nat, (ns.map fun (n : Nat) => (n : Int)).sum = ((ns.sum : Nat) : Int)
  | [] => rfl
  | n :: ns => by rw [List.map_cons, List.sum_cons, List.sum_cons, sumI ns, Int.natCast_add]
def projB : PyData → Bool
  | .tuple ds => (decide (1 ≤ ds.length) && decide (ds.length ≤ 8)) && ds.all frB
  | _ => false
def lenD : PyData → Nat
  | .tuple ds => ds.length
  | _ => 0
def yardB : PyData → Bool
  | .tuple [x, .tuple ps] => prpB x && ((decide (1 ≤ ps.length) && decide (ps.length ≤ 3)) && (ps.all projB && decide ((ps.map lenD).sum ≤ 12)))
  | _ => false
def spProj (K : PySem.W.Frag) (Ts : List Addr) (f : PyData → Bool) : Sp := fun vs H Q _ => ∃ (p : Addr) (v : V) (d : PyData), vs = [v] ∧ Dq K p H v d ∧ TBs Ts H ∧ ∀ H', ExT H H' → TBs Ts H' → Q (.bl (f d)) H'
theorem rd_allT {K : PySem.W.Frag} {p : Addr} {Ts : List Addr} {E : XK} {f : PyData → Bool} : ∀ {vs : List V} {ds : List PyData} {H : Hp} {Q : Bool → Hp → Prop}, DqAll K p H vs ds → TBs Ts H → (∀ H', ExT H H' → TBs Ts H' → Q (ds.all f) H') → rdAll (tCall (spProj K Ts f) [] E (tCons (tVar 1) tNil)) vs H Q
  | _, _, H, Q, .nil, ht, k => k H (ExT.refl H) ht
  | _, _, H, Q, .cons (v := v) (d := d) h hs, ht, k => by
    refine ⟨v, rfl, p, v, d, rfl, h, ht, fun H1 e1 t1 => ⟨f d, rfl, fun hb => ?_, fun hb => ?_⟩⟩
    · refine rd_allT (DqAll.xt e1 _ _ hs) t1 fun H' e' t' => ?_
      have := k H' (e1.trans e') t'
      rwa [List.all_cons, hb, Bool.true_and] at this
    · have := k H1 e1 t1
      rwa [List.all_cons, hb, Bool.false_and] at this
theorem isTup_ex {d : PyData} (h : isTup d = true) : ∃ ds, d = .tuple ds := by
  cases d with
  | tuple ds => exact ⟨ds, rfl⟩
  | _ => cases h
theorem projB_no {d : PyData} (h : isTup d = false) : projB d = false := by
  cases d <;> first | rfl | (simp [isTup] at h)
theorem yardB_no {d : PyData} (h : isTup d = false) : yardB d = false := by
  cases d <;> first | rfl | (simp [isTup] at h)
section
variable {P : Program} {w : World} {K : PySem.W.Frag} {mg : Str → Option Value} {base : Heap}
theorem ok_is_project (T : Txt K mg) (tb_is_project : GxR.TabB base mg T.c_is_project T.P_is_project) : FnOk P w K mg base CX0 4 T.d_is_project.a T.d_is_project.fd ["value"] (spProj K [T.P_is_project, T.P_is_yard] projB) := by
  refine okC T.d_is_project.F T.h_is_project sc_is_project (fun vs H Q E h => ?_) (fun A outer s H vs Q E hr h => ?_)
  · obtain ⟨p, v, d, rfl, _⟩ := h
    rfl
  · obtain ⟨p, v, d, rfl, hd, ht, k⟩ := h
    refine ⟨_, (pss_one (ps_ret (pe_and (pe_callB call_isi (by rfl) T.n_isinstance (by decide +kernel) (pa_cons (pv 0) (pa_cons (pe_bltn (v := .ty "tuple") (by rfl) T.n_tuple (by decide +kernel) rfl) pa_nil))) (pe_and (pe_chain op_le op_le pe_int (pe_callB call_len_seq (by rfl) T.n_len (by decide +kernel) (pa_cons (pv 0) pa_nil)) (pe_glob (v := .int 8) rfl T.c_MOST_DAYS ⟨_, rfl⟩)) (pe_one (pe_allT hr (by rfl) T.n_all tb_is_project rfl ⟨rfl, rfl, by decide, rfl, rfl, by decide, by decide⟩ (pv 0) (fun _ _ _ _ _ hr => (pe_call (ok_is_fraction T) (hr.mono (by decide)) (by rfl) T.d_is_fraction.g T.d_is_fraction.F.kp T.d_is_fraction.b .nil pass0 (pa_cons (pv 1) pa_nil))) (fun _ => rfl))))))), ?_⟩
    refine (ev_isi (i := 0) (T := "tuple") rfl hd (kit_tup d)) H (Ex.refl _) _ fun H1 e1 => ⟨_, rfl, ?_⟩
    cases hi : isTup d with
    | false =>
      rw [if_neg (by decide)]
      rw [projB_no hi] at k
      exact k H1 (Ex.t e1) (ht.ex e1)
    | true =>
      rw [if_pos rfl]
      obtain ⟨ds, rfl⟩ := isTup_ex hi
      have hd1 := Dq.ex e1 _ _ hd
      have ht1 := ht.ex e1
      refine (ev_chain (a := decide ((1 : Int) ≤ (ds.length : Int))) (b := decide ((ds.length : Int) ≤ 8)) ev_c (ev_lenT (i := 0) rfl hd1) ev_c (fun H => rv_I0) fun H => rv_I0) H1 (Ex.refl _) _ fun H2 e2 => ⟨_, rfl, ?_⟩
      have c0 : (decide ((1 : Int) ≤ (ds.length : Int)) && decide ((ds.length : Int) ≤ 8)) = (decide (1 ≤ ds.length) && decide (ds.length ≤ 8)) := by
        rw [Bool.eq_iff_iff, Bool.and_eq_true, Bool.and_eq_true, decide_eq_true_iff, decide_eq_true_iff, decide_eq_true_iff, decide_eq_true_iff]
        omega
      rw [c0]
      have ht2 := ht1.ex e2
      have ee := e1.trans e2
      cases hc : (decide (1 ≤ ds.length) && decide (ds.length ≤ 8)) with
      | false =>
        rw [if_neg (by decide)]
        have e : projB (.tuple ds) = false := by show ((_ && _) && _) = _; rw [hc, Bool.false_and]
        rw [e] at k
        exact k H2 (Ex.t ee) ht2
      | true =>
        rw [if_pos rfl]
        have e : projB (.tuple ds) = ds.all frB := by show ((_ && _) && _) = _; rw [hc, Bool.true_and]
        rw [e] at k
        obtain ⟨a, xs, rfl, hS, hA⟩ := (Dq.ex ee _ _ hd).seq
        refine ⟨_, rfl, a, xs, rfl, hS, ht2 _ (by simp), fun H3 tb => ?_⟩
        have e3 := Tabd.t (ht2 _ (by simp)) tb
        exact rd_allEv (f := frB) (DqAll.xt e3 _ _ hA) (fun v d H' hq => ev_isD (ev_var rfl) hq trivial) fun H4 e4 => k H4 (((Ex.t ee).trans e3).trans (Ex.t e4)) ((ht2.tb tb).ex e4)
theorem ok_is_yard (T : Txt K mg) (tb_is_project : GxR.TabB base mg T.c_is_project T.P_is_project) (tb_is_yard : GxR.TabB base mg T.c_is_yard T.P_is_yard) : FnOk P w K mg base CX0 6 T.d_is_yard.a T.d_is_yard.fd ["value"] (spProj K [T.P_is_project, T.P_is_yard] yardB) := by
  refine okC T.d_is_yard.F T.h_is_yard sc_is_yard (fun vs H Q E h => ?_) (fun A outer s H vs Q E hr h => ?_)
  · obtain ⟨p, v, d, rfl, _⟩ := h
    rfl
  · obtain ⟨p, v, d, rfl, hd, ht, k⟩ := h
    refine ⟨_, (pss_cons (ps_if (PW.pt (pw_or (pt_not (pt_val (pe_callB call_isi (by rfl) T.n_isinstance (by decide +kernel) (pa_cons (pv 0) (pa_cons (pe_bltn (v := .ty "tuple") (by rfl) T.n_tuple (by decide +kernel) rfl) pa_nil))))) (pw_or (pt_cmpR op_ne (pe_callB call_len_seq (by rfl) T.n_len (by decide +kernel) (pa_cons (pv 0) pa_nil)) pe_int (nomark _)) (pw_or1 (pt_not (pt_val (pe_call (ok_is_proper T) (hr.mono (by decide)) (by rfl) T.d_is_proper.g T.d_is_proper.F.kp T.d_is_proper.b .nil pass0 (pa_cons (pe_ix ix_tup (pv 0) pe_int (fun _ _ => rfl)) pa_nil)))))))) (pss_one (ps_ret pe_bl)) pss_nil)
      (pss_cons (ps_set (i := 1) sc_is_yard.nd rfl (Or.inl rfl) (pe_ix ix_tup (pv 0) pe_int (fun _ _ => rfl)))
      (pss_cons (ps_if (PW.pt (pw_or (pt_not (pt_val (pe_callB call_isi (by rfl) T.n_isinstance (by decide +kernel) (pa_cons (pv 1) (pa_cons (pe_bltn (v := .ty "tuple") (by rfl) T.n_tuple (by decide +kernel) rfl) pa_nil))))) (pw_or1 (pt_not (pt_chain op_le op_le pe_int (pe_callB call_len_seq (by rfl) T.n_len (by decide +kernel) (pa_cons (pv 1) pa_nil)) (pe_glob (v := .int 3) rfl T.c_MOST_PROJECTS ⟨_, rfl⟩)))))) (pss_one (ps_ret pe_bl)) pss_nil)
      (pss_cons (ps_if (pt_not (pt_val (pe_allT hr (by rfl) T.n_all tb_is_yard rfl ⟨rfl, rfl, by decide, rfl, rfl, by decide, by decide⟩ (pv 1) (fun _ _ _ _ _ hr => (pe_call (ok_is_project T tb_is_project) (hr.mono (by decide)) (by rfl) T.d_is_project.g T.d_is_project.F.kp T.d_is_project.b .nil pass0 (pa_cons (pv 1) pa_nil))) (fun _ => rfl)))) (pss_one (ps_ret pe_bl)) pss_nil)
      (pss_one (ps_ret (pe_cmpR op_le (pe_callB (cr_sum rfl) (by rfl) T.n_sum (by decide +kernel) (pa_cons (pe_lc (own := [("project", 3)]) (g := gName 3) (te := tCB (fun xs H Q => ∃ p ys, xs = [V.ref p] ∧ (SqL K H p ys ∨ SqT K H p ys) ∧ Q (V.int ys.length) H) (tCons (tVar 3) tNil)) (tt := tYes) rfl sc_is_yard.nd (pi_tup (pv 1)) (blkOk_by (own := [("project", 3)]) (N := n_is_yard) (sc := defScope s_is_yard) (by decide +kernel)) (fun _ _ _ _ _ => pg_name (i := 3) sc_is_yard.nd rfl (Or.inl rfl)) (fun _ _ _ _ _ => pts_nil) (fun _ _ _ _ _ => (pe_callB call_len_seq (by rfl) T.n_len (by decide +kernel) (pa_cons (pv 3) pa_nil)))) pa_nil)) (pe_glob (v := .int 12) rfl T.c_MOST_DAYS_IN_ALL ⟨_, rfl⟩) (nomark _)))))))), ?_⟩
    have no : yardB d = false → ∀ H', Ex H H' → Q (.bl false) H' := fun e H' e' => by
      have := k H' (Ex.t e') (ht.ex e')
      rwa [e] at this
    cases hi : isTup d with
    | false => exact s_if (b := true) (et_is (et_or (a := true) (b := true) (et_is (et_not (et_B (ev_isi rfl hd (kit_tup d)))) (by rw [hi]; rfl)) fun z => nomatch z) rfl) (fun _ H1 e1 => no (yardB_no hi) H1 e1) (fun z => nomatch z)
    | true =>
    obtain ⟨ds, rfl⟩ := isTup_ex hi
    by_cases h2 : ds.length = 2
    case neg =>
      have n2 : V.int (ds.length : Int) ≠ V.int 2 := fun z => h2 (by
        have := V.int.inj z
        omega)
      have e : yardB (.tuple ds) = false := by
        match ds, h2 with
        | [], _ => rfl
        | [_], _ => rfl
        | [_, _], h => exact absurd rfl h
        | _ :: b :: _ :: _, _ => cases b <;> rfl
      exact s_if (b := true) (et_is (et_or (a := false) (b := true) (et_is (et_not (et_B (ev_isi (b := true) rfl hd rfl))) rfl) fun _ => et_is (et_or (a := true) (b := true) (et_is (et_test (ev_op (ev_lenT rfl hd) ev_c (rv_ne rfl))) (by rw [decide_eq_false n2]; rfl)) fun z => nomatch z) rfl) rfl) (fun _ H1 e1 => no e H1 e1) (fun z => nomatch z)
    obtain ⟨x, y, rfl⟩ : ∃ x y, ds = [x, y] := match ds, h2 with | [x, y], _ => ⟨x, y, rfl⟩
    refine s_if (b := !prpB x) (et_is (et_or (a := false) (et_is (et_not (et_B (ev_isi (b := true) rfl hd rfl))) rfl) fun _ => et_or (a := false) (et_is (et_test (ev_op (ev_lenT rfl hd) ev_c (rv_ne rfl))) rfl) fun _ => et_not (et_B (ev_isDp (ed_ix (K := K) (p := p) (j := 0) rfl hd rfl) trivial))) rfl) (fun z H1 e1 => ?_) (fun z H1 e1 => ?_)
    · have z' : prpB x = false := by simpa using z
      refine no ?_ H1 e1
      cases y <;> first | rfl | (show (_ && _) = _; rw [z', Bool.false_and])
    have z' : prpB x = true := by simpa using z
    refine n_next ?_
    dsimp only
    refine n_seq ?_
    refine s_asgP (ed_ix (K := K) (p := p) (j := 1) rfl (Dq.ex e1 _ _ hd) rfl) fun u H2 e2 q2 => ?_
    have E2 := e1.trans e2
    dsimp only
    refine n_seq ?_
    cases hy : isTup y with
    | false => exact s_if (b := true) (et_is (et_or (a := true) (b := true) (et_is (et_not (et_B (ev_isi (i := 1) rfl q2 (kit_tup y)))) (by rw [hy]; rfl)) fun z => nomatch z) rfl) (fun _ H3 e3 => no (by cases y <;> first | rfl | (simp [isTup] at hy)) H3 (E2.trans e3)) (fun z => nomatch z)
    | true =>
    obtain ⟨ps, rfl⟩ := isTup_ex hy
    have c0 : (decide ((1 : Int) ≤ (ps.length : Int)) && decide ((ps.length : Int) ≤ 3)) = (decide (1 ≤ ps.length) && decide (ps.length ≤ 3)) := by
      rw [Bool.eq_iff_iff, Bool.and_eq_true, Bool.and_eq_true, decide_eq_true_iff, decide_eq_true_iff, decide_eq_true_iff, decide_eq_true_iff]
      omega
    have yb : yardB (.tuple [x, .tuple ps]) = ((decide (1 ≤ ps.length) && decide (ps.length ≤ 3)) && (ps.all projB && decide ((ps.map lenD).sum ≤ 12))) := by
      show (prpB x && _) = _
      rw [z', Bool.true_and]
    refine s_if (b := !(decide (1 ≤ ps.length) && decide (ps.length ≤ 3))) (et_is (et_or (a := false) (et_is (et_not (et_B (ev_isi (i := 1) (b := true) rfl q2 rfl))) rfl) fun _ => et_not (et_test (ev_is (ev_chain ev_c (ev_lenT (i := 1) rfl q2) ev_c (fun H => rv_I0) fun H => rv_I0) (by rw [c0])))) rfl) (fun z H3 e3 => ?_) (fun z H3 e3 => ?_)
    · have z2 : (decide (1 ≤ ps.length) && decide (ps.length ≤ 3)) = false := by
        cases hh : (decide (1 ≤ ps.length) && decide (ps.length ≤ 3)) with
        | false => rfl
        | true => rw [hh] at z; cases z
      exact no (by rw [yb, z2, Bool.false_and]) H3 (E2.trans e3)
    have z2 : (decide (1 ≤ ps.length) && decide (ps.length ≤ 3)) = true := by
      cases hh : (decide (1 ≤ ps.length) && decide (ps.length ≤ 3)) with
      | true => rfl
      | false => rw [hh] at z; cases z
    rw [z2, Bool.true_and] at yb
    have l3 : ps.length ≤ 3 := by
      rw [Bool.and_eq_true] at z2
      exact of_decide_eq_true z2.2
    refine n_next ?_
    dsimp only
    refine n_seq ?_
    have E3 := E2.trans e3
    have ht3 := ht.ex E3
    obtain ⟨a, xs, rfl, hS, hA⟩ := (Dq.ex e3 _ _ q2).seq
    refine ⟨.ref a, rfl, a, xs, rfl, hS, ht3 _ (by simp), fun H4 tb => ?_⟩
    have e4 := Tabd.t (ht3 _ (by simp)) tb
    refine rd_allT (DqAll.xt e4 _ _ hA) (ht3.tb tb) fun H5 e5 t5 => ⟨_, rfl, ?_⟩
    have X5 := ((Ex.t E3).trans e4).trans e5
    rw [yb] at k
    cases hall : ps.all projB with
    | false =>
      refine iteT ?_
      rw [hall, Bool.false_and] at k
      exact k H5 X5 t5
    | true =>
    refine iteF ?_
    refine n_next ?_
    dsimp only
    rw [hall, Bool.true_and] at k
    have hA5 := DqAll.xt (e4.trans e5) _ _ hA
    have xl : xs.length = ps.length := hA.len
    refine ⟨.ref a, rfl, a, rfl, ⟨_, (e4.trans e5).st hS⟩, fun D nD => ?_⟩
    refine lc_tup (K := K) (a := a) (xs := xs) (fun i G => Ex H5 G ∧ G D = some (.lst (intsV ((ps.take i).map lenD)))) ⟨Ex.new nD, upd_same⟩ (fun i G _ h => ex_t h.1 ((e4.trans e5).st hS)) ?_ ?_
    · rintro i x' G hx ⟨ex, hD⟩
      have il : i < xs.length := (List.getElem?_eq_some_iff.mp hx).1
      obtain ⟨di, hdi⟩ : ∃ di, ps[i]? = some di := ⟨_, List.getElem?_eq_getElem (by omega)⟩
      obtain ⟨x2, hx2, qx⟩ := hA5.get hdi
      rw [hx] at hx2
      cases hx2
      have pj := List.all_eq_true.mp hall di (List.mem_of_getElem? hdi)
      cases di with
      | tuple ds' =>
        obtain ⟨b, ys, rfl, hb, hB⟩ := (Dq.ex ex _ _ qx).seq
        refine ⟨rfl, ?_⟩
        refine yes_of ?_
        rw [if_pos rfl]
        refine ⟨_, rfl, b, ys, rfl, .inr hb, ?_⟩
        refine ⟨_, hD, small1000 (by unfold intsV; rw [List.length_map, List.length_map, List.length_take]; omega), Ex.mut ex nD, ?_⟩
        rw [upd_same, List.take_succ, hdi, List.map_append]
        unfold intsV
        rw [List.map_append, hB.len]
        rfl
      | _ => cases pj
    · rintro G ⟨ex, hD⟩
      rw [xl, List.take_length] at hD
      refine ⟨D, (ps.map lenD).map fun (n : Nat) => (n : Int), rfl, ?_, _, _, rfl, rfl, ?_⟩
      · rw [List.map_map]
        exact SqL.of hD
      rw [sumI]
      have e : decide ((((ps.map lenD).sum : Nat) : Int) ≤ 12) = decide ((ps.map lenD).sum ≤ 12) := by
        rw [Bool.eq_iff_iff, decide_eq_true_iff, decide_eq_true_iff]
        omega
      show Q (V.bl (decide ((((ps.map lenD).sum : Nat) : Int) ≤ 12))) G
      rw [e]
      exact k G (X5.trans (Ex.t ex)) (t5.ex ex)
end
/-! ### what a project pays -/
theorem DqAll.rev {K : PySem.W.Frag} {p : Addr} {H : Hp} : ∀ {xs : List V} {ds : List PyData}, DqAll K p H xs ds → DqAll K p H xs.reverse ds.reverse
  | _, _, .nil => .nil
  | _, _, .cons h hs => by
    rw [List.reverse_cons, List.reverse_cons]
    exact hs.rev.append (.cons h .nil)
def paidQ (s : Rat) : List Rat → Rat
  | [] => 0
  | q :: qs => q + s * paidQ s qs
def wageQ (s : Rat) (ps : List Rat) : Rat := paidQ s ps / paidQ s (ps.map fun _ => 1)
def termP (s : PyData) : List PyData → PyData
  | [] => .tuple [.str "end"]
  | q :: qs => .tuple [.str "step", q, .tuple [.tuple [s, termP s qs]]]
section
variable {P : Program} {w : World} {K : PySem.W.Frag} {mg : Str → Option Value} {base : Heap}
def spReq2 (K : PySem.W.Frag) (Ts : List Addr) (C1 C2 : Addr) : Sp := fun vs H Q E => ∃ (p : Addr) (u v : V) (d e : PyData), vs = [u, v] ∧ Dq K p H u d ∧ Dq K p H v e ∧ TBs Ts H ∧ (prpB d = false → Er C1 u H E) ∧
  (prpB d = true → projB e = false → ∀ H', ExT H H' → TBs Ts H' → Er C2 v H' E) ∧ (prpB d = true → projB e = true → ∀ H', ExT H H' → TBs Ts H' → Q .non H')
theorem ok_require_share_and_project (T : Txt K mg) (tb_is_project : GxR.TabB base mg T.c_is_project T.P_is_project) : FnOk P w K mg base (L2.CX P w) 5 T.d_require_share_and_project.a T.d_require_share_and_project.fd ["share", "project"] (spReq2 K [T.P_is_project, T.P_is_yard] T.E_BadShare.C T.E_BadProject.C) := by
  refine T.d_require_share_and_project.F.okX sc_require_share_and_project (fun vs H Q E h => ?_) (fun cdv A outer s H vs Q E hr h => ?_)
  · obtain ⟨p, u, v, d, e, rfl, _⟩ := h
    rfl
  · obtain ⟨p, u, v, d, e, rfl, hd, he, ht, k1, k2, k3⟩ := h
    refine ⟨_, (pss_cons (ps_if (pt_not (pt_val (pe_call (ok_is_proper T) (hr.mono (by decide)) (by rfl) T.d_is_proper.g T.d_is_proper.F.kp T.d_is_proper.b .nil pass0 (pa_cons (pv 0) pa_nil)))) (pss_one (ps_raise rfl (takes_of rfl rfl rfl rfl) (pmk_oex T.E_BadShare.x.oex T.E_BadShare.x.i T.E_BadShare.x.t (ok_i_BadShare T) (hr.mono (by decide)) T.E_BadShare.b .nil pass0 (by rfl) T.E_BadShare.g (pa_cons (pv 0) pa_nil)))) pss_nil)
      (pss_one (ps_if (pt_not (pt_val (pe_call (ok_is_project T tb_is_project) (hr.mono (by decide)) (by rfl) T.d_is_project.g T.d_is_project.F.kp T.d_is_project.b .nil pass0 (pa_cons (pv 1) pa_nil)))) (pss_one (ps_raise rfl (takes_of rfl rfl rfl rfl) (pmk_oex T.E_BadProject.x.oex T.E_BadProject.x.i T.E_BadProject.x.t (ok_i_BadProject T) (hr.mono (by decide)) T.E_BadProject.b .nil pass0 (by rfl) T.E_BadProject.g (pa_cons (pv 1) pa_nil)))) pss_nil))), ?_⟩
    refine s_if (et_not (et_B (ev_isD (ev_var rfl) hd trivial))) (fun z H1 e1 => ?_) (fun z H1 e1 => ?_)
    · exact rd_raise rfl ((k1 (by simpa using z)).ex e1)
    · have z' : prpB d = true := by simpa using z
      refine n_next ?_
      dsimp only
      refine ⟨v, rfl, p, v, e, rfl, Dq.ex e1 _ _ he, ht.ex e1, fun H2 e2 t2 => ⟨_, rfl, ?_⟩⟩
      have X2 := (Ex.t e1).trans e2
      cases hp : projB e with
      | false => exact iteT (rd_raise rfl (k2 z' hp H2 X2 t2))
      | true => exact iteF (n_next (k3 z' hp H2 X2 t2))
def spTermP (K : PySem.W.Frag) : Sp := fun vs H Q _ => ∃ (p : Addr) (u v : V) (s : PyData) (qs : List PyData), vs = [u, v] ∧ Dq K p H u s ∧ Dq K p H v (.tuple qs) ∧ qs.length ≤ 8 ∧ ∀ x H', Ex H H' → Dq K p H' x (termP s qs) → Q x H'
theorem termP_rev (s : PyData) (qs : List PyData) : (qs.reverse.foldl (fun t q => PyData.tuple [.str "step", q, .tuple [.tuple [s, t]]]) (.tuple [.str "end"])) = termP s qs := by
  rw [List.foldl_reverse]
  induction qs with
  | nil => rfl
  | cons q qs ih =>
    rw [List.foldr_cons, ih]
    rfl
theorem ok_term_of_project (T : Txt K mg) : FnOk P w K mg base CX0 1 T.d_term_of_project.a T.d_term_of_project.fd ["share", "project"] (spTermP K) := by
  refine T.d_term_of_project.F.ok sc_term_of_project (fun vs H Q E h => ?_) (fun cdv A outer s H vs Q E hr h => ?_)
  · obtain ⟨p, u, v, s', qs, rfl, _⟩ := h
    rfl
  · obtain ⟨p, u, v, s', qs, rfl, hu', hv, l8, k⟩ := h
    refine ⟨_, (pss_cons (ps_set (i := 2) sc_term_of_project.nd rfl (Or.inl rfl) (pe_glob (v := .ref T.a_END) rfl T.c_END rfl))
      (pss_cons (ps_for PassesOwn.never rfl (pi_tup (pe_revT (pv 1))) (pg_name (i := 3) sc_term_of_project.nd rfl (Or.inl rfl)) (pss_one (ps_set (i := 2) sc_term_of_project.nd rfl (Or.inl rfl) (pe_tup (pa_cons pe_str (pa_cons (pv 3) (pa_cons (pe_tup (pa_cons (pe_tup (pa_cons (pv 0) (pa_cons (pv 2) pa_nil))) pa_nil)) pa_nil)))))))
      (pss_one (ps_ret (pv 2))))), ?_⟩
    obtain ⟨a, xs, rfl, hS, hA⟩ := hv.seq
    have xl : xs.length = qs.length := hA.len
    refine n_seq ?_
    refine n_c ?_
    dsimp only
    refine n_seq ?_
    refine ⟨_, rfl, a, xs, rfl, hS, fun t ft => ?_⟩
    have e0 := Ex.new (o := .tup xs.reverse) ft
    have hA0 := (DqAll.ex e0 _ _ hA).rev
    refine ⟨t, rfl, ⟨_, SqT.of upd_same⟩, ?_⟩
    refine for_tup (K := K) (a := t) (xs := xs.reverse) (fun i σ G => Ex (upd H t (.tup xs.reverse)) G ∧ ∃ (z : V) (y : Option V), σ = [some u, some (.ref a), some z, y] ∧ Dq K p G z ((qs.reverse.take i).foldl (fun t q => PyData.tuple [.str "step", q, .tuple [.tuple [s', t]]]) (.tuple [.str "end"]))) ⟨Ex.refl _, _, none, rfl, .tup (.inr T.k_END) (.cons (.str "end") .nil)⟩ (fun i σ G _ h => ex_t h.1 (SqT.of upd_same)) ?_ ?_
    · rintro i x σ G hx ⟨ex, z, y, rfl, qz⟩
      have il : i < xs.reverse.length := (List.getElem?_eq_some_iff.mp hx).1
      obtain ⟨qi, hqi⟩ : ∃ qi, qs.reverse[i]? = some qi := ⟨_, List.getElem?_eq_getElem (by rw [← hA0.len]; exact il)⟩
      obtain ⟨x', hx', qx⟩ := (DqAll.ex ex _ _ hA0).get hqi
      rw [hx] at hx'
      cases hx'
      refine n_name ?_
      dsimp only
      refine s_asgP (ed_tup (K := K) (p := p) (eds_cons ed_str (eds_cons (ed_var rfl qx) (eds_cons (ed_tup (eds_cons (ed_tup (eds_cons (ed_var rfl (Dq.ex (e0.trans ex) _ _ hu')) (eds_cons (ed_var rfl qz) eds_nil)) (by show 2 ≤ 1000; decide)) eds_nil) (by show 1 ≤ 1000; decide)) eds_nil))) (by show 3 ≤ 1000; decide)) fun w G2 e2 qw => ?_
      refine ⟨ex.trans e2, w, _, rfl, ?_⟩
      rw [List.take_succ, hqi, List.foldl_append]
      exact qw
    · rintro σ G ⟨ex, z, y, rfl, qz⟩
      rw [show xs.reverse.length = qs.reverse.length by rw [hA0.len], List.take_length, termP_rev] at qz
      exact ⟨_, rfl, k z G (e0.trans ex) qz⟩
def spPaid (K : PySem.W.Frag) : Sp := fun vs H Q _ => ∃ (p a : Addr) (u : V) (xs : List V) (s : Rat) (qs : List Rat), vs = [u, .ref a] ∧ Fr K 10 s u H ∧ (SqT K H a xs ∨ H a = some (.lst xs)) ∧ DqAll K p H xs (qs.map frd) ∧ (∀ q ∈ qs, Bd 10 q) ∧ qs.length ≤ 8 ∧
  ∀ z H', Ex H H' → Fr K 200 (paidQ s qs) z H' → Q z H'
theorem paidQ_rev (s : Rat) (qs : List Rat) : (qs.reverse.foldl (fun t q => q + s * t) 0) = paidQ s qs := by
  rw [List.foldl_reverse]
  induction qs with
  | nil => rfl
  | cons q qs ih =>
    rw [List.foldr_cons, ih]
    rfl
theorem ok_paid_in_all (T : Txt K mg) : FnOk P w K mg base CX0 3 T.d_paid_in_all.a T.d_paid_in_all.fd ["share", "pays"] (spPaid K) := by
  refine T.d_paid_in_all.F.ok sc_paid_in_all (fun vs H Q E h => ?_) (fun cdv A outer s H vs Q E hr h => ?_)
  · obtain ⟨p, a, u, xs, s', qs, rfl, _⟩ := h
    rfl
  · obtain ⟨p, a, u, xs, s', qs, rfl, fs, hxs, hA, hb, l8, k⟩ := h
    have xl : xs.length = qs.length := by rw [hA.len, List.length_map]
    have z0 : ∀ G, Fr K 1 0 (.ref T.a_ZERO) G := fun G => ⟨_, rfl, .inr T.k_ZERO, by decide, by decide⟩
    have hb' : ∀ q ∈ qs.reverse, Bd 10 q := fun q hq => hb q (List.mem_reverse.mp hq)
    rcases hxs with hS | hL
    · refine ⟨_, (pss_cons (ps_set (i := 2) sc_paid_in_all.nd rfl (Or.inl rfl) (pe_glob (v := .ref T.a_ZERO) rfl T.c_ZERO rfl))
      (pss_cons (ps_for PassesOwn.never rfl (pi_tup (pe_revT (pv 1))) (pg_name (i := 3) sc_paid_in_all.nd rfl (Or.inl rfl)) (pss_one (ps_set (i := 2) sc_paid_in_all.nd rfl (Or.inl rfl) (pe_call (ok_add T) (hr.mono (by decide)) (by rfl) T.d_add.g T.d_add.F.kp T.d_add.b .nil pass0 (pa_cons (pv 3) (pa_cons (pe_call (ok_multiply T) (hr.mono (by decide)) (by rfl) T.d_multiply.g T.d_multiply.F.kp T.d_multiply.b .nil pass0 (pa_cons (pv 0) (pa_cons (pv 2) pa_nil))) pa_nil))))))
      (pss_one (ps_ret (pv 2))))), ?_⟩
      refine n_seq ?_
      refine n_c ?_
      dsimp only
      refine n_seq ?_
      refine ⟨_, rfl, a, xs, rfl, hS, fun t ft => ?_⟩
      have e0 := Ex.new (o := .tup xs.reverse) ft
      have hA0 : DqAll K p (upd H t (.tup xs.reverse)) xs.reverse (qs.reverse.map frd) := by
        rw [List.map_reverse]
        exact (DqAll.ex e0 _ _ hA).rev
      refine ⟨t, rfl, ⟨_, SqT.of upd_same⟩, ?_⟩
      refine for_tup (K := K) (a := t) (xs := xs.reverse) (fun i σ G => Ex (upd H t (.tup xs.reverse)) G ∧ ∃ (z : V) (y : Option V), σ = [some u, some (.ref a), some z, y] ∧ Fr K (1 + 22 * i) ((qs.reverse.take i).foldl (fun t q => q + s' * t) 0) z G) ⟨Ex.refl _, _, none, rfl, z0 _⟩ (fun i σ G _ h => ex_t h.1 (SqT.of upd_same)) ?_ ?_
      · rintro i x σ G hx ⟨ex, z, y, rfl, qz⟩
        have il : i < xs.reverse.length := (List.getElem?_eq_some_iff.mp hx).1
        obtain ⟨qi, hqi, fx⟩ := (DqAll.ex ex _ _ hA0).fr_at hb' hx
        refine n_name ?_
        dsimp only
        refine s_asgP (ep_2 (K := K) (n := 1 + 22 * (i + 1)) (ep_var rfl fx) (ep_2 (n := 10 + (1 + 22 * i) + 1) (ep_var rfl (fs.ex (e0.trans ex))) (ep_var rfl qz) trivial (by rw [List.length_reverse] at il; omega) rfl) trivial (by rw [List.length_reverse] at il; omega) (by omega)) fun w G2 e2 qw => ?_
        refine ⟨ex.trans e2, w, _, rfl, ?_⟩
        rw [List.take_succ, hqi, List.foldl_append]
        exact qw
      · rintro σ G ⟨ex, z, y, rfl, qz⟩
        have e1 : xs.reverse.length = qs.reverse.length := by rw [List.length_reverse, List.length_reverse, xl]
        rw [e1, List.take_length, paidQ_rev] at qz
        rw [List.length_reverse] at qz
        exact ⟨_, rfl, k z G (e0.trans ex) (qz.mono (by omega))⟩
    · refine ⟨_, (pss_cons (ps_set (i := 2) sc_paid_in_all.nd rfl (Or.inl rfl) (pe_glob (v := .ref T.a_ZERO) rfl T.c_ZERO rfl))
      (pss_cons (ps_for PassesOwn.never rfl (pi_list (pe_revL (pv 1))) (pg_name (i := 3) sc_paid_in_all.nd rfl (Or.inl rfl)) (pss_one (ps_set (i := 2) sc_paid_in_all.nd rfl (Or.inl rfl) (pe_call (ok_add T) (hr.mono (by decide)) (by rfl) T.d_add.g T.d_add.F.kp T.d_add.b .nil pass0 (pa_cons (pv 3) (pa_cons (pe_call (ok_multiply T) (hr.mono (by decide)) (by rfl) T.d_multiply.g T.d_multiply.F.kp T.d_multiply.b .nil pass0 (pa_cons (pv 0) (pa_cons (pv 2) pa_nil))) pa_nil))))))
      (pss_one (ps_ret (pv 2))))), ?_⟩
      refine n_seq ?_
      refine n_c ?_
      dsimp only
      refine n_seq ?_
      refine ⟨_, rfl, a, xs, rfl, SqL.of hL, fun t ft => ?_⟩
      have e0 := Ex.new (o := .lst xs.reverse) ft
      have hA0 : DqAll K p (upd H t (.lst xs.reverse)) xs.reverse (qs.reverse.map frd) := by
        rw [List.map_reverse]
        exact (DqAll.ex e0 _ _ hA).rev
      refine ⟨t, rfl, ⟨_, SqL.of upd_same⟩, ?_⟩
      refine for_list (K := K) (a := t) (xs := xs.reverse) (fun i σ G => Ex (upd H t (.lst xs.reverse)) G ∧ ∃ (z : V) (y : Option V), σ = [some u, some (.ref a), some z, y] ∧ Fr K (1 + 22 * i) ((qs.reverse.take i).foldl (fun t q => q + s' * t) 0) z G) ⟨Ex.refl _, _, none, rfl, z0 _⟩ (fun i σ G _ h => SqL.of (h.1 _ _ upd_same)) ?_ ?_
      · rintro i x σ G hx ⟨ex, z, y, rfl, qz⟩
        have il : i < xs.reverse.length := (List.getElem?_eq_some_iff.mp hx).1
        obtain ⟨qi, hqi, fx⟩ := (DqAll.ex ex _ _ hA0).fr_at hb' hx
        refine n_name ?_
        dsimp only
        refine s_asgP (ep_2 (K := K) (n := 1 + 22 * (i + 1)) (ep_var rfl fx) (ep_2 (n := 10 + (1 + 22 * i) + 1) (ep_var rfl (fs.ex (e0.trans ex))) (ep_var rfl qz) trivial (by rw [List.length_reverse] at il; omega) rfl) trivial (by rw [List.length_reverse] at il; omega) (by omega)) fun w G2 e2 qw => ?_
        refine ⟨ex.trans e2, w, _, rfl, ?_⟩
        rw [List.take_succ, hqi, List.foldl_append]
        exact qw
      · rintro σ G ⟨ex, z, y, rfl, qz⟩
        have e1 : xs.reverse.length = qs.reverse.length := by rw [List.length_reverse, List.length_reverse, xl]
        rw [e1, List.take_length, paidQ_rev] at qz
        rw [List.length_reverse] at qz
        exact ⟨_, rfl, k z G (e0.trans ex) (qz.mono (by omega))⟩
/-- fractions, in data: a list's change leaves them -/
theorem Dq.frl {K : PySem.W.Frag} {p D : Addr} {H H' : Hp} {xs : List V} {v : V} {q : Rat} (hD : H D = some (.lst xs)) (e : ExB D H H') (h : Dq K p H v (frd q)) : Dq K p H' v (frd q) := by
  cases h with
  | tup hS hA =>
    refine .tup (tup_lst hD e hS) ?_
    cases hA with
    | cons h1 h2 =>
      cases h2 with
      | cons h3 h4 =>
        cases h4
        cases h1
        cases h3
        exact .cons (.int _) (.cons (.int _) .nil)
theorem DqAll.frl {K : PySem.W.Frag} {p D : Addr} {H H' : Hp} {xs : List V} (hD : H D = some (.lst xs)) (e : ExB D H H') : ∀ {vs : List V} {qs : List Rat}, DqAll K p H vs (qs.map frd) → DqAll K p H' vs (qs.map frd)
  | [], [], _ => .nil
  | v :: vs, q :: qs, h => by
    cases h with
    | cons h hs => exact .cons (h.frl hD e) (DqAll.frl hD e hs)
  | [], q :: qs, h => by cases h
  | v :: vs, [], h => by cases h
def spWage (K : PySem.W.Frag) : Sp := fun vs H Q _ => ∃ (p : Addr) (u v : V) (s : Rat) (qs : List Rat), vs = [u, v] ∧ Fr K 10 s u H ∧ 0 < s ∧ Dq K p H v (.tuple (qs.map frd)) ∧ (∀ q ∈ qs, Bd 10 q) ∧ 1 ≤ qs.length ∧ qs.length ≤ 8 ∧
  ∀ z H', Ex H H' → Fr K 401 (wageQ s qs) z H' → Q z H'
theorem ones_pos {s : Rat} (h : 0 < s) : ∀ qs : List Rat, 0 ≤ paidQ s (qs.map fun _ => 1) ∧ (qs ≠ [] → 0 < paidQ s (qs.map fun _ => 1))
  | [] => ⟨by show (0 : Rat) ≤ 0; exact Rat.le_refl, fun z => absurd rfl z⟩
  | q :: qs => by
    have ih := (ones_pos h qs).1
    have e : paidQ s ((q :: qs).map fun _ => 1) = 1 + s * paidQ s (qs.map fun _ => 1) := rfl
    have m : 0 ≤ s * paidQ s (qs.map fun _ => 1) := Rat.mul_nonneg (by grind) ih
    rw [e]
    exact ⟨by grind, fun _ => by grind⟩
theorem ok_wage (T : Txt K mg) : FnOk P w K mg base CX0 4 T.d_wage.a T.d_wage.fd ["share", "days"] (spWage K) := by
  refine T.d_wage.F.ok sc_wage (fun vs H Q E h => ?_) (fun cdv A outer s H vs Q E hr h => ?_)
  · obtain ⟨p, u, v, s', qs, rfl, _⟩ := h
    rfl
  · obtain ⟨p, u, v, s', qs, rfl, fs, s0, hv, hb, l1, l8, k⟩ := h
    refine ⟨_, (pss_one (ps_ret (pe_call (ok_divide T) (hr.mono (by decide)) (by rfl) T.d_divide.g T.d_divide.F.kp T.d_divide.b .nil pass0 (pa_cons (pe_call (ok_paid_in_all T) (hr.mono (by decide)) (by rfl) T.d_paid_in_all.g T.d_paid_in_all.F.kp T.d_paid_in_all.b .nil pass0 (pa_cons (pv 0) (pa_cons (pv 1) pa_nil))) (pa_cons (pe_call (ok_paid_in_all T) (hr.mono (by decide)) (by rfl) T.d_paid_in_all.g T.d_paid_in_all.F.kp T.d_paid_in_all.b .nil pass0 (pa_cons (pv 0) (pa_cons (pe_lc (own := [("_", 2)]) (g := gName 2) (tt := tYes) rfl sc_wage.nd (pi_tup (pv 1)) (blkOk_by (own := [("_", 2)]) (N := n_wage) (sc := defScope s_wage) (by decide +kernel)) (fun _ _ _ _ _ => pg_name (i := 2) sc_wage.nd rfl (Or.inl rfl)) (fun _ _ _ _ _ => pts_nil) (fun _ _ _ _ _ => (pe_glob (v := .ref T.a_ONE) rfl T.c_ONE rfl))) pa_nil))) pa_nil))))), ?_⟩
    obtain ⟨a, xs, rfl, hS, hA⟩ := hv.seq
    have xl : xs.length = qs.length := by rw [hA.len, List.length_map]
    refine ⟨u, rfl, _, rfl, p, a, u, xs, s', qs, rfl, fs, .inl hS, hA, hb, l8, fun z1 H1 e1 f1 => ?_⟩
    refine ⟨u, rfl, _, rfl, a, rfl, ⟨_, ex_t e1 hS⟩, fun D nD => ?_⟩
    refine lc_tup (K := K) (a := a) (xs := xs) (fun i G => Ex H1 G ∧ ∃ zs, G D = some (.lst zs) ∧ zs.length = i ∧ DqAll K p G zs ((List.replicate i (1 : Rat)).map frd)) ⟨Ex.new nD, [], upd_same, rfl, .nil⟩ (fun i G _ h => ex_t (e1.trans h.1) hS) ?_ ?_
    · rintro i x G hx ⟨exG, zs, hz, hzl, qs'⟩
      have il : i < xs.length := (List.getElem?_eq_some_iff.mp hx).1
      refine ⟨rfl, ?_⟩
      refine yes_of ?_
      rw [if_pos rfl]
      have q1 : ∀ G, Dq K p G (.ref T.a_ONE) (frd 1) := fun G => .tup (.inr T.k_ONE) (.cons (.int 1) (.cons (.int 1) .nil))
      refine ⟨zs, hz, small1000 (by omega), Ex.mut exG nD, zs ++ [.ref T.a_ONE], upd_same, by rw [List.length_append, hzl]; rfl, ?_⟩
      rw [List.replicate_succ', List.map_append]
      have up : ExB D G (upd G D (.lst (zs ++ [.ref T.a_ONE]))) := ExB.upd (ExB.refl D G)
      refine DqAll.append (DqAll.frl hz up qs') (.cons (q1 _) .nil)
    · rintro G ⟨exG, zs, hz, hzl, qs'⟩
      have eo : List.replicate xs.length (1 : Rat) = qs.map fun _ => 1 := by
        rw [xl]
        exact (List.map_const' ..).symm
      rw [eo] at qs'
      refine ⟨p, D, u, zs, s', qs.map fun _ => 1, rfl, fs.ex (e1.trans exG), .inr hz, qs', fun q hq => ?_, by rw [List.length_map]; exact l8, fun z2 H3 e3 f3 => ?_⟩
      · obtain ⟨_, _, rfl⟩ := List.mem_map.mp hq
        exact ⟨by decide, by decide⟩
      · have n0 : paidQ s' (qs.map fun _ => 1) ≠ 0 := by
          have := (ones_pos s0 qs).2 (fun z => by rw [z] at l1; exact absurd l1 (by decide))
          grind
        exact ⟨z1, z2, 200, 200, _, _, rfl, f1.ex (exG.trans e3), f3, by decide, n0, fun z H4 e4 f4 => k z H4 (((e1.trans exG).trans e3).trans e4) f4⟩
/-- a share, a project: wrong, or right -/
def spPT (K : PySem.W.Frag) (Ts : List Addr) (C1 C2 : Addr) : Sp := fun vs H Q E => ∃ (p : Addr) (u v : V) (d e : PyData), vs = [u, v] ∧ Dq K p H u d ∧ Dq K p H v e ∧ TBs Ts H ∧ ((prpB d = false ∧ Er C1 u H E) ∨ (prpB d = true ∧ projB e = false ∧ ∀ H', ExT H H' → TBs Ts H' → Er C2 v H' E) ∨
  (prpB d = true ∧ projB e = true ∧ ∀ qs, e = .tuple qs → ∀ x H', ExT H H' → TBs Ts H' → Dq K p H' x (termP d qs) → Q x H'))
theorem ok_project_term (T : Txt K mg) (tb_is_project : GxR.TabB base mg T.c_is_project T.P_is_project) : FnOk P w K mg base (L2.CX P w) 6 T.d_project_term.a T.d_project_term.fd ["share", "project"] (spPT K [T.P_is_project, T.P_is_yard] T.E_BadShare.C T.E_BadProject.C) := by
  refine T.d_project_term.F.okX sc_project_term (fun vs H Q E h => ?_) (fun cdv A outer s H vs Q E hr h => ?_)
  · obtain ⟨p, u, v, d, e, rfl, _⟩ := h
    rfl
  · obtain ⟨p, u, v, d, e, rfl, hd, he, ht, hc⟩ := h
    refine ⟨_, (pss_cons (ps_expr (pe_call (ok_require_share_and_project T tb_is_project) (hr.mono (by decide)) (by rfl) T.d_require_share_and_project.g T.d_require_share_and_project.F.kp T.d_require_share_and_project.b .nil (passes_call (takes_of rfl rfl rfl rfl) fun _ _ _ _ h => h) (pa_cons (pv 0) (pa_cons (pv 1) pa_nil))))
      (pss_one (ps_ret (pe_call (ok_term_of_project T) (hr.mono (by decide)) (by rfl) T.d_term_of_project.g T.d_term_of_project.F.kp T.d_term_of_project.b .nil pass0 (pa_cons (pv 0) (pa_cons (pv 1) pa_nil)))))), ?_⟩
    refine n_seq ?_
    refine ⟨u, rfl, v, rfl, p, u, v, d, e, rfl, hd, he, ht, ?_⟩
    rcases hc with ⟨h1, h2⟩ | ⟨h1, h2, h3⟩ | ⟨h1, h2, h3⟩
    · exact ⟨fun _ => h2, fun z => (by rw [h1] at z; cases z), fun z => by rw [h1] at z; cases z⟩
    · exact ⟨fun z => (by rw [h1] at z; cases z), fun _ _ => h3, fun _ z => by rw [h2] at z; cases z⟩
    · refine ⟨fun z => (by rw [h1] at z; cases z), fun _ z => (by rw [h2] at z; cases z), fun _ _ H1 e1 t1 => ?_⟩
      cases e with
      | tuple qs =>
        have l8 : qs.length ≤ 8 := by
          have h2' : ((decide (1 ≤ qs.length) && decide (qs.length ≤ 8)) && qs.all frB) = true := h2
          simp only [Bool.and_eq_true, decide_eq_true_eq] at h2'
          exact h2'.1.2
        exact ⟨u, rfl, v, rfl, p, u, v, d, qs, rfl, Dq.xt e1 _ _ hd, Dq.xt e1 _ _ he, l8, fun x H2 e2 q => h3 qs rfl x H2 (e1.trans (Ex.t e2)) (t1.ex e2) q⟩
      | _ => cases h2
end
/-! ### the falling wages -/
def wgs (s : Rat) (ps : List Rat) : List Rat := (List.range ps.length).map fun i => wageQ s (ps.take (i + 1))
structure Top (ws : List Rat) (b : Rat) (L : Nat) : Prop where
  one : 1 ≤ L
  le : L ≤ ws.length
  at_ : ws[L - 1]? = some b
  most : ∀ (i : Nat) (w : Rat), ws[i]? = some w → w ≤ b
  last : ∀ (i : Nat) (w : Rat), L ≤ i → ws[i]? = some w → w ≠ b
inductive Fall (s : Rat) : List Rat → List Rat → Prop
  | nil : Fall s [] []
  | step {ps r : List Rat} {b : Rat} {L : Nat} : Top (wgs s ps) b L → Fall s (ps.drop L) r → Fall s ps (List.replicate L b ++ r)
theorem Top.uniq {ws : List Rat} {b b' : Rat} {L L' : Nat} (h : Top ws b L) (h' : Top ws b' L') : b = b' ∧ L = L' := by
  have e : b = b' := by
    have h1 := h'.most _ _ h.at_
    have h2 := h.most _ _ h'.at_
    grind
  subst e
  refine ⟨rfl, ?_⟩
  have o := h.one
  have o' := h'.one
  by_cases c : L = L'
  · exact c
  · by_cases c2 : L < L'
    · exact absurd rfl (h.last (L' - 1) b (by omega) h'.at_)
    · exact absurd rfl (h'.last (L - 1) b (by omega) h.at_)
theorem wgs_len (s : Rat) (ps : List Rat) : (wgs s ps).length = ps.length := by
  unfold wgs
  rw [List.length_map, List.length_range]
theorem Fall.uniq {s : Rat} {ps r r' : List Rat} (h : Fall s ps r) (h' : Fall s ps r') : r = r' := by
  induction h generalizing r' with
  | nil =>
    cases h' with
    | nil => rfl
    | step t _ =>
      have h1 := t.one
      have h2 := t.le
      rw [wgs_len] at h2
      exact absurd h2 (by simp; omega)
  | @step ps r b L t f ih =>
    cases h' with
    | nil =>
      have h1 := t.one
      have h2 := t.le
      rw [wgs_len] at h2
      exact absurd h2 (by simp; omega)
    | @step _ r2 b2 L2 t2 f2 =>
      obtain ⟨rfl, rfl⟩ := t.uniq t2
      rw [ih f2]
theorem Fall.len {s : Rat} {ps r : List Rat} (h : Fall s ps r) : r.length = ps.length := by
  induction h with
  | nil => rfl
  | @step ps r b L t f ih =>
    have h2 := t.le
    rw [wgs_len] at h2
    rw [List.length_append, List.length_replicate, ih, List.length_drop]
    omega
theorem wgs_at {s : Rat} {ps : List Rat} {i : Nat} (h : i < ps.length) : (wgs s ps)[i]? = some (wageQ s (ps.take (i + 1))) := by
  unfold wgs
  rw [List.getElem?_map, List.getElem?_range h]
  rfl
theorem paid_app (s : Rat) : ∀ (a b : List Rat), paidQ s (a ++ b) = paidQ s a + s ^ a.length * paidQ s b
  | [], b => by
    show paidQ s b = 0 + s ^ 0 * paidQ s b
    grind
  | q :: a, b => by
    show q + s * paidQ s (a ++ b) = (q + s * paidQ s a) + s ^ (a.length + 1) * paidQ s b
    rw [paid_app s a b, Rat.pow_succ]
    grind
theorem maxQ_ge : ∀ (qs : List Rat) (m : Rat), m ≤ maxQ m qs ∧ ∀ q ∈ qs, q ≤ maxQ m qs
  | [], m => ⟨Rat.le_refl, fun q z => by cases z⟩
  | q :: qs, m => by
    have ih := maxQ_ge qs (if m < q then q else m)
    show m ≤ maxQ (if m < q then q else m) qs ∧ _
    refine ⟨?_, fun x hx => ?_⟩
    · by_cases c : m < q
      · rw [if_pos c] at ih ⊢
        have := ih.1
        grind
      · rw [if_neg c] at ih ⊢
        exact ih.1
    · show x ≤ maxQ (if m < q then q else m) qs
      rcases List.mem_cons.mp hx with rfl | hx
      · by_cases c : m < x
        · rw [if_pos c] at ih ⊢
          exact ih.1
        · rw [if_neg c] at ih ⊢
          have := ih.1
          grind
      · exact ih.2 x hx
theorem maxQ_mem : ∀ (qs : List Rat) (m : Rat), maxQ m qs = m ∨ maxQ m qs ∈ qs
  | [], m => .inl rfl
  | q :: qs, m => by
    show maxQ (if m < q then q else m) qs = m ∨ maxQ (if m < q then q else m) qs ∈ q :: qs
    by_cases c : m < q
    · rw [if_pos c]
      rcases maxQ_mem qs q with h | h
      · exact .inr (by rw [h]; exact List.mem_cons_self)
      · exact .inr (List.mem_cons_of_mem _ h)
    · rw [if_neg c]
      rcases maxQ_mem qs m with h | h
      · exact .inl h
      · exact .inr (List.mem_cons_of_mem _ h)
/-- a tuple cut, the same one or a new one -/
theorem rd_slA {K : PySem.W.Frag} {b : Addr} {xs : List V} {lo hi : Option Int} {H : Hp} {Q : VK} (hS : SqT K H b xs) (k : ∀ u H', Ex H H' → SqT K H' u (cutV xs lo hi) → Q (.ref u) H') : rSlA K (.ref b) lo hi H Q := by
  refine ⟨b, xs, rfl, hS, fun h => ?_, fun _ q hq => k q _ (Ex.new hq) (SqT.of upd_same)⟩
  refine k b H (Ex.refl H) ?_
  have e : cutV xs lo hi = xs := by
    unfold cutV
    rw [h.1, h.2, List.drop_zero, Nat.sub_zero, List.take_of_length_le (Nat.le_refl _)]
  rw [e]
  exact hS
theorem cut_lo (xs : List V) (n : Nat) : cutV xs (some (n : Int)) none = xs.drop n := by
  have e : HT.sIx xs.length 0 (some (n : Int)) = min n xs.length := HT.sIx_nat xs.length 0 n
  unfold cutV
  rw [e, HT.sIx_none]
  by_cases h : n ≤ xs.length
  · rw [Nat.min_eq_left h, List.take_of_length_le (by rw [List.length_drop]; omega)]
  · rw [Nat.min_eq_right (by omega), List.drop_of_length_le (Nat.le_refl _), List.drop_of_length_le (by omega)]
    simp
theorem cut_hi (xs : List V) (n : Nat) : cutV xs none (some (n : Int)) = xs.take n := by
  have e : HT.sIx xs.length xs.length (some (n : Int)) = min n xs.length := HT.sIx_nat xs.length xs.length n
  unfold cutV
  rw [e, HT.sIx_none, List.drop_zero, Nat.sub_zero]
  by_cases h : n ≤ xs.length
  · rw [Nat.min_eq_left h]
  · rw [Nat.min_eq_right (by omega), List.take_of_length_le (Nat.le_refl _), List.take_of_length_le (by omega)]
theorem sl_lo {K : PySem.W.Frag} {b : Addr} {xs : List V} {σ : L2.St} {i n : Nat} {tn : TE} {H : Hp} {Q : VK} (hv : σ[i]? = some (some (.ref b))) (hS : SqT K H b xs) (hn : Ev tn σ H (.int (n : Int))) (k : ∀ u H', Ex H H' → SqT K H' u (xs.drop n) → Q (.ref u) H') : tSl (rSlA K) (tVar i) (tPart tn) tNoPart σ H Q := by
  refine ⟨_, hv, ?_⟩
  refine hn H (Ex.refl H) _ fun H1 e1 => ⟨_, rfl, ?_⟩
  show rSlA K (.ref b) (some (n : Int)) none H1 Q
  refine rd_slA (ex_t e1 hS) fun u H2 e2 h => k u H2 (e1.trans e2) ?_
  rwa [cut_lo] at h
theorem sl_hi {K : PySem.W.Frag} {b : Addr} {xs : List V} {σ : L2.St} {i n : Nat} {tn : TE} {H : Hp} {Q : VK} (hv : σ[i]? = some (some (.ref b))) (hS : SqT K H b xs) (hn : Ev tn σ H (.int (n : Int))) (k : ∀ u H', Ex H H' → SqT K H' u (xs.take n) → Q (.ref u) H') : tSl (rSlA K) (tVar i) tNoPart (tPart tn) σ H Q := by
  refine ⟨_, hv, ?_⟩
  refine hn H (Ex.refl H) _ fun H1 e1 => ⟨_, rfl, ?_⟩
  show rSlA K (.ref b) none (some (n : Int)) H1 Q
  refine rd_slA (ex_t e1 hS) fun u H2 e2 h => k u H2 (e1.trans e2) ?_
  rwa [cut_hi] at h
theorem ev_lenL {K : PySem.W.Frag} {l : Addr} {xs : List V} {σ : L2.St} {i : Nat} {H : Hp} (hv : σ[i]? = some (some (.ref l))) (hl : H l = some (.lst xs)) : Ev (tCB (fun xs H_1 Q => ∃ p ys, xs = [V.ref p] ∧ (SqL K H_1 p ys ∨ SqT K H_1 p ys) ∧ Q (V.int ys.length) H_1) (tCons (tVar i) tNil)) σ H (.int (xs.length : Int)) := fun H1 e Q k =>
  ⟨_, hv, l, xs, rfl, .inl (SqL.of (e _ _ hl)), k H1 (Ex.refl H1)⟩
theorem DqAll.drop {K : PySem.W.Frag} {p : Addr} {H : Hp} : ∀ {xs : List V} {ds : List PyData}, DqAll K p H xs ds → ∀ n, DqAll K p H (xs.drop n) (ds.drop n)
  | _, _, h, 0 => h
  | _, _, .nil, _ + 1 => .nil
  | _, _, .cons _ hs, n + 1 => hs.drop n
theorem DqAll.cut {K : PySem.W.Frag} {p : Addr} {H : Hp} : ∀ (i : Nat) {xs : List V} {ds : List PyData}, DqAll K p H xs ds → DqAll K p H (xs.take i) (ds.take i)
  | 0, _, _, _ => .nil
  | _ + 1, _, _, .nil => .nil
  | i + 1, _, _, .cons h hs => .cons h (hs.cut i)
/-- the places, counted from one, where b stands -/
def lensI (b : Rat) (W : List Rat) (n : Nat) : List Int := ((List.range n).filter fun j => decide (W[j]? = some b)).map fun (j : Nat) => 1 + (j : Int)
theorem lensI_succ (b : Rat) (W : List Rat) (n : Nat) : lensI b W (n + 1) = lensI b W n ++ (if W[n]? = some b then [1 + (n : Int)] else []) := by
  unfold lensI
  rw [List.range_succ, List.filter_append, List.map_append]
  congr 1
  by_cases h : W[n]? = some b
  · rw [if_pos h]; simp [h]
  · rw [if_neg h]; simp [h]
theorem lensI_len (b : Rat) (W : List Rat) (n : Nat) : (lensI b W n).length ≤ n := by
  unfold lensI
  rw [List.length_map]
  have := List.length_filter_le (fun j => decide (W[j]? = some b)) (List.range n)
  rwa [List.length_range] at this
theorem lensI_mem {b : Rat} {W : List Rat} {n : Nat} {m : Int} (h : m ∈ lensI b W n) : ∃ j : Nat, j < n ∧ W[j]? = some b ∧ m = 1 + (j : Int) := by
  unfold lensI at h
  obtain ⟨j, hj, rfl⟩ := List.mem_map.mp h
  rw [List.mem_filter, List.mem_range] at hj
  exact ⟨j, hj.1, of_decide_eq_true hj.2, rfl⟩
theorem lensI_in {b : Rat} {W : List Rat} {n j : Nat} (h : W[j]? = some b) (hj : j < n) : (1 + (j : Int)) ∈ lensI b W n := by
  unfold lensI
  refine List.mem_map.mpr ⟨j, ?_, rfl⟩
  rw [List.mem_filter, List.mem_range]
  exact ⟨hj, decide_eq_true h⟩
theorem lensI_pos {b : Rat} {W : List Rat} {n : Nat} (h : b ∈ W) (hn : W.length ≤ n) : 0 < (lensI b W n).length := by
  obtain ⟨j, hj, e⟩ := List.getElem_of_mem h
  exact List.length_pos_of_mem (lensI_in (n := n) (j := j) (by rw [List.getElem?_eq_getElem hj, e]) (by omega))
theorem rep_flat (n : Nat) (z : V) : (List.replicate n [z]).flatten = List.replicate n z := by
  induction n with
  | zero => rfl
  | succ n ih =>
    rw [List.replicate_succ, List.flatten_cons, ih, List.replicate_succ]
    rfl
theorem DqAll.rep {K : PySem.W.Frag} {p : Addr} {H : Hp} {v : V} {d : PyData} : ∀ (n : Nat), Dq K p H v d → DqAll K p H (List.replicate n v) (List.replicate n d)
  | 0, _ => .nil
  | n + 1, h => .cons h (DqAll.rep n h)
theorem prpB_pos {s : Rat} (h : prpB (frd s) = true) : 0 < s := by
  unfold prpB at h
  rw [frQ_frd] at h
  simp only [Bool.and_eq_true, decide_eq_true_eq] at h
  exact (num_pos_iff s).mp h.2.1
section
variable {P : Program} {w : World} {K : PySem.W.Frag} {mg : Str → Option Value} {base : Heap}
def spFall (K : PySem.W.Frag) (Ts : List Addr) (C1 C2 : Addr) : Sp := fun vs H Q E => ∃ (p : Addr) (u v : V) (d e : PyData), vs = [u, v] ∧ Dq K p H u d ∧ Dq K p H v e ∧ TBs Ts H ∧ ((prpB d = false ∧ Er C1 u H E) ∨ (prpB d = true ∧ projB e = false ∧ ∀ H', ExT H H' → TBs Ts H' → Er C2 v H' E) ∨
  ∃ (s : Rat) (qs : List Rat), prpB d = true ∧ projB e = true ∧ d = frd s ∧ Bd 10 s ∧ e = .tuple (qs.map frd) ∧ (∀ q ∈ qs, Bd 10 q) ∧ ∀ l zs r H', ExT H H' → TBs Ts H' → (∀ q ys, H q = some (.lst ys) → q ≠ l) → l ≠ sysModules → H' l = some (.lst zs) → DqAll K p H' zs (r.map frd) → Fall s qs r → (∀ q ∈ r, Bd 401 q) → Q (.ref l) H')
theorem ok_falling (T : Txt K mg) (tb_is_project : GxR.TabB base mg T.c_is_project T.P_is_project) : FnOk P w K mg base (L2.CX P w) 6 T.d_falling.a T.d_falling.fd ["share", "project"] (spFall K [T.P_is_project, T.P_is_yard] T.E_BadShare.C T.E_BadProject.C) := by
  refine T.d_falling.F.okX sc_falling (fun vs H Q E h => ?_) (fun cdv A outer s H vs Q E hr h => ?_)
  · obtain ⟨p, u, v, d, e, rfl, _⟩ := h
    rfl
  · obtain ⟨p, u, v, d, e, rfl, hd, he, ht, hc⟩ := h
    refine ⟨_, (pss_cons (ps_expr (pe_call (ok_require_share_and_project T tb_is_project) (hr.mono (by decide)) (by rfl) T.d_require_share_and_project.g T.d_require_share_and_project.F.kp T.d_require_share_and_project.b .nil (passes_call (takes_of rfl rfl rfl rfl) fun _ _ _ _ h => h) (pa_cons (pv 0) (pa_cons (pv 1) pa_nil))))
      (pss_cons (ps_set (i := 2) sc_falling.nd rfl (Or.inl rfl) (pe_lstN pa_nil))
      (pss_cons (ps_while (passes_of rfl) (pt_cmpR op_lt (pe_callB call_len_seq (by rfl) T.n_len (by decide +kernel) (pa_cons (pv 2) pa_nil)) (pe_callB call_len_seq (by rfl) T.n_len (by decide +kernel) (pa_cons (pv 1) pa_nil)) (nomark _)) (pss_cons (ps_set (i := 3) sc_falling.nd rfl (Or.inr rfl) (pe_slice sl_tupA (pv 1) (po_some (pe_callB call_len_seq (by rfl) T.n_len (by decide +kernel) (pa_cons (pv 2) pa_nil))) po_none))
      (pss_cons (ps_setLc (i := 4) (own := [("length", 7)]) (g := gName 7) (te := tCall (spWage K) [] E0 (tCons (tVar 0) (tCons (tSl (rSlA K) (tVar 3) tNoPart (tPart (tVar 7))) tNil))) (tt := tYes) rfl sc_falling.nd rfl rfl (sw_true rfl rfl rfl (by decide +kernel)) (pi_range2 (by rfl) T.n_range (pa_cons pe_int (pa_cons (pe_op op_add (pe_callB call_len_seq (by rfl) T.n_len (by decide +kernel) (pa_cons (pv 3) pa_nil)) pe_int) pa_nil))) (blkOk_by (own := [("length", 7)]) (N := n_falling) (sc := defScope s_falling) (by decide +kernel)) (fun _ _ _ _ _ => pg_name (i := 7) sc_falling.nd rfl (Or.inl rfl)) (fun _ _ _ _ _ => pts_nil) (fun _ _ _ _ _ => (pe_call (ok_wage T) (hr.mono (by decide)) (by rfl) T.d_wage.g T.d_wage.F.kp T.d_wage.b .nil pass0 (pa_cons (pv 0) (pa_cons (pe_slice sl_tupA (pv 3) po_none (po_some (pv 7))) pa_nil)))))
      (pss_cons (ps_set (i := 5) sc_falling.nd rfl (Or.inr rfl) (pe_call (ok_greatest T) (hr.mono (by decide)) (by rfl) T.d_greatest.g T.d_greatest.F.kp T.d_greatest.b .nil pass0 (pa_cons (pv 4) pa_nil)))
      (pss_cons (ps_set (i := 6) sc_falling.nd rfl (Or.inl rfl) (pe_callB (cr_max rfl) (by rfl) T.n_max (by decide +kernel) (pa_cons (pe_lc (own := [("length", 7), ("amount", 8)]) (g := gTup K 2 (gCons (gName 7) (gCons (gName 8) gNil))) (tt := tTest (tOp (rEqD K) (tVar 8) (tVar 5))) rfl sc_falling.nd (pi_enumK (by rfl) T.n_enumerate (pa_cons (pv 4) pa_nil) (pk_cons pe_int pk_nil)) (blkOk_by (own := [("length", 7), ("amount", 8)]) (N := n_falling) (sc := defScope s_falling) (by decide +kernel)) (fun _ _ _ _ _ => (pg_tup rfl (pgs_cons (pg_name (i := 7) sc_falling.nd rfl (Or.inl rfl)) (pgs_cons (pg_name (i := 8) sc_falling.nd rfl (Or.inl rfl)) pgs_nil)))) (fun _ _ _ _ _ => pts_one (pt_cmpR (op_eqD hr.units) (pv 8) (pv 5) (nomark _))) (fun _ _ _ _ _ => (pv 7))) pa_nil)))
      (pss_one (ps_expr (pe_bm PySem.F.plainAttrs_list PySem.F.slot_list_extend PySem.F.type_list_extend mt_extend (pv 2) (pa_cons (pe_op op_rep (pe_lstN (pa_cons (pv 5) pa_nil)) (pv 6)) pa_nil)))))))))
      (pss_one (ps_ret (pv 2)))))), ?_⟩
    refine n_seq ?_
    refine ⟨u, rfl, v, rfl, p, u, v, d, e, rfl, hd, he, ht, ?_⟩
    rcases hc with ⟨h1, h2⟩ | ⟨h1, h2, h3⟩ | ⟨s', ps, h1, h2, rfl, bs, rfl, bp, k⟩
    · exact ⟨fun _ => h2, fun z => (by rw [h1] at z; cases z), fun z => by rw [h1] at z; cases z⟩
    · exact ⟨fun z => (by rw [h1] at z; cases z), fun _ _ => h3, fun _ z => by rw [h2] at z; cases z⟩
    refine ⟨fun z => (by rw [h1] at z; cases z), fun _ z => (by rw [h2] at z; cases z), fun _ _ H1 e1 t1 => ?_⟩
    have s0 := prpB_pos h1
    have l8 : ps.length ≤ 8 := by
      have h2' : ((decide (1 ≤ (ps.map frd).length) && decide ((ps.map frd).length ≤ 8)) && (ps.map frd).all frB) = true := h2
      simp only [Bool.and_eq_true, decide_eq_true_eq, List.length_map] at h2'
      exact h2'.1.2
    have fs : Fr K 10 s' u H1 := by
      have := (Dq.xt e1 _ _ hd).fr (b := 10) (frB_frd _) (by rw [frQ_frd]; exact bs)
      rwa [frQ_frd] at this
    obtain ⟨a, xs, rfl, hS, hA⟩ := (Dq.xt e1 _ _ he).seq
    have xl : xs.length = ps.length := by rw [hA.len, List.length_map]
    dsimp only
    refine n_seq ?_
    refine ⟨by show 0 ≤ sizeLine; decide, fun D nD nm => ?_⟩
    have e2 := Ex.new (o := .lst []) nD
    dsimp only
    refine n_seq ?_
    refine while_by (fun σ G => ∃ (zs : List V) (r : List Rat) (y3 y4 y5 y6 y7 y8 : Option V), σ = [some u, some (.ref a), some (.ref D), y3, y4, y5, y6, y7, y8] ∧ Ex H1 G ∧ G D = some (.lst zs) ∧ DqAll K p G zs (r.map frd) ∧ r.length ≤ ps.length ∧ (∀ q ∈ r, Bd 401 q) ∧ (∀ r', Fall s' (ps.drop r.length) r' → Fall s' ps (r ++ r')))
      (fun σ G => match G D with
        | some (.lst zs) => ps.length - zs.length
        | _ => 0) ⟨[], [], none, none, none, none, none, none, rfl, e2, upd_same, .nil, Nat.zero_le _, (fun q z => nomatch z), fun r' f => f⟩ ?_ ?_
    · rintro σ G ⟨zs, r, y3, y4, y5, y6, y7, y8, rfl, ex, hz, qs, rl, rb, acc⟩
      have zl : zs.length = r.length := by rw [qs.len, List.length_map]
      refine ⟨_, rfl, D, zs, rfl, .inl (SqL.of hz), _, rfl, a, xs, rfl, .inr (ex_t ex hS), _, _, rfl, rfl, _, rfl, ?_⟩
      rw [zl, xl]
      refine ite2 (fun c => ?_) (fun c => ?_)
      · have c' : r.length < ps.length := by
          have := of_decide_eq_true c
          omega
        refine n_seq ?_
        refine sl_lo (K := K) (n := zs.length) rfl (ex_t ex hS) (ev_lenL rfl hz) fun t G2 e3 hS2 => ?_
        rw [zl] at hS2
        have E3 := ex.trans e3
        have hA2 : DqAll K p G2 (xs.drop r.length) ((ps.drop r.length).map frd) := by
          rw [List.map_drop]
          exact (DqAll.ex E3 _ _ hA).drop _
        generalize hps : ps.drop r.length = qs2 at hA2
        have ql : qs2.length = ps.length - r.length := by rw [← hps, List.length_drop]
        have bq : ∀ q ∈ qs2, Bd 10 q := fun q hq => bp q (List.mem_of_mem_drop (by rw [hps]; exact hq))
        generalize hxs : xs.drop r.length = xs2 at hS2 hA2
        have xl2 : xs2.length = qs2.length := by rw [hA2.len, List.length_map]
        have hz2 := e3 _ _ hz
        dsimp only
        refine n_seq ?_
        -- the wages
        refine ⟨_, rfl, t, xs2, rfl, .inr hS2, _, _, rfl, rfl, 1, _, rfl, ⟨by decide, by decide, by omega, by omega⟩, fun D2 nD2 => ?_⟩
        rw [show ((xs2.length : Int) + 1 - 1).toNat = xs2.length by omega]
        have WL := wgs_len s' qs2
        generalize hW : wgs s' qs2 = W at WL
        have Wat : ∀ i, i < qs2.length → W[i]? = some (wageQ s' (qs2.take (i + 1))) := fun i hi => by rw [← hW]; exact wgs_at hi
        refine lc_range (lo := 1) (n := xs2.length) (fun i G' => Ex G2 G' ∧ ∃ ws, G' D2 = some (.lst ws) ∧ ws.length = i ∧ DqAll K p G' ws ((W.take i).map frd) ∧ ∀ q ∈ W.take i, Bd 401 q) ⟨Ex.new nD2, [], upd_same, rfl, .nil, fun q z => by simp at z⟩ ?_ ?_
        · rintro i G3 hi ⟨ex3, ws, hws, wl, qw, bw⟩
          refine ⟨rfl, ?_⟩
          refine yes_of ?_
          rw [if_pos rfl]
          refine ⟨u, rfl, ?_⟩
          refine sl_hi (K := K) (n := i + 1) (b := t) rfl (ex_t ex3 hS2) (ev_var (by
            show some (some (V.int (1 + (i : Int)))) = _
            rw [show (1 + (i : Int)) = ((i + 1 : Nat) : Int) by omega])) fun t3 G4 e4 hS4 => ?_
          have E4 := ex3.trans e4
          have hA4 : DqAll K p G4 (xs2.take (i + 1)) ((qs2.take (i + 1)).map frd) := by
            rw [List.map_take]
            exact (DqAll.ex E4 _ _ hA2).cut _
          refine ⟨p, u, .ref t3, s', qs2.take (i + 1), rfl, fs.ex (E3.trans E4), s0, .tup hS4 hA4, fun q hq => bq q (List.mem_of_mem_take hq), by rw [List.length_take]; omega, by rw [List.length_take]; omega, fun z G5 e5 f5 => ?_⟩
          have hws5 := (e4.trans e5) _ _ hws
          have up : ExB D2 G5 (upd G5 D2 (.lst (ws ++ [z]))) := ExB.upd (ExB.refl D2 G5)
          have ti : W.take (i + 1) = W.take i ++ [wageQ s' (qs2.take (i + 1))] := by
            rw [List.take_succ, Wat i (by omega)]
            rfl
          refine ⟨ws, hws5, small1000 (by omega), Ex.mut (E4.trans e5) nD2, ws ++ [z], upd_same, by rw [List.length_append, wl]; rfl, ?_, ?_⟩
          · rw [ti, List.map_append]
            exact (DqAll.frl hws5 up (DqAll.ex (e4.trans e5) _ _ qw)).append (.cons (f5.dq.frl hws5 up) .nil)
          · rw [ti]
            intro q hq
            rcases List.mem_append.mp hq with hq | hq
            · exact bw q hq
            · rw [List.mem_singleton] at hq
              rw [hq]
              exact f5.bd
        rintro G3 ⟨ex3, ws, hws, wl, qw, bw⟩
        have wt : W.take xs2.length = W := List.take_of_length_le (by omega)
        rw [wt] at qw bw
        refine n_name ?_
        dsimp only
        refine n_seq ?_
        have Wne : W ≠ [] := fun z => by
          rw [z] at WL
          simp at WL
          omega
        refine ⟨_, rfl, p, D2, ws, W, 401, rfl, hws, qw, bw, by decide, Wne, fun z G5 e5 f5 => ?_⟩
        have bmem : maxQ (W.headD 0) W ∈ W := by
          rcases maxQ_mem W (W.headD 0) with h | h
          · rw [h]
            cases W with
            | nil => exact absurd rfl Wne
            | cons w W => exact List.mem_cons_self
          · exact h
        have bge := (maxQ_ge W (W.headD 0)).2
        generalize maxQ (W.headD 0) W = b at f5 bmem bge
        dsimp only
        refine n_seq ?_
        have E5 := ex3.trans e5
        have hws5 := e5 _ _ hws
        have qw5 := DqAll.ex e5 _ _ qw
        refine ⟨.ref D2, rfl, D2, ws, 1, rfl, rfl, by decide, by decide, SqL.of hws5, fun D3 nD3 => ?_⟩
        refine lc_it (walk_enumK (K := K) (a := D2) (c := 1) (xs := ws)) (fun i G' => Ex G5 G' ∧ G' D3 = some (.lst ((lensI b W i).map V.int))) ⟨Ex.new nD3, upd_same⟩ (fun i G' _ h => SqL.of (h.1 _ _ hws5)) ?_ ?_
        · rintro i x G6 G7 hi ⟨ex6, hD3⟩ ⟨T0, nx, y, rfl, hT0, rfl, h1, h2⟩
          cases h1
          obtain ⟨q, hq, fq⟩ := (DqAll.ex ex6 _ _ qw5).fr_at bw h2
          have x7 := Ex.new (o := .tup [.int (1 + (i : Nat)), y]) hT0
          have nT : D3 ≠ T0 := ne_of_none hD3 hT0
          have hD37 : (upd G6 T0 (.tup [.int (1 + (i : Nat)), y])) D3 = some (.lst ((lensI b W i).map V.int)) := by rw [upd_ne nT]; exact hD3
          refine ⟨T0, _, rfl, SqT.of upd_same, rfl, _, _, rfl, _, _, rfl, rfl, ?_⟩
          refine ⟨rfl, ?_⟩
          refine (et_test (ev_eqD (K := K) (ep_var rfl (fq.ex x7)) (ep_var rfl (f5.ex (ex6.trans x7))))) _ (Ex.refl _) _ fun G8 e8 => ?_
          have hD38 := e8 _ _ hD37
          have EE := (ex6.trans x7).trans e8
          by_cases c : q = b
          · rw [decide_eq_true c, if_pos rfl]
            refine ⟨_, rfl, _, hD38, small1000 ?_, Ex.mut EE nD3, ?_⟩
            · rw [List.length_map]
              have := lensI_len b W i
              omega
            · rw [upd_same, lensI_succ, if_pos (by rw [hq, c]), List.map_append]
              rfl
          · rw [decide_eq_false c, if_neg (by decide)]
            refine ⟨EE, ?_⟩
            rw [lensI_succ, if_neg (by rw [hq]; intro z; exact c (Option.some.inj z)), List.append_nil]
            exact hD38
        rintro G6 ⟨ex6, hD3⟩
        refine ⟨D3, lensI b W ws.length, rfl, SqL.of hD3, lensI_pos bmem (by omega), fun m hm hge => ?_⟩
        obtain ⟨jj, jl, ej, rfl⟩ := lensI_mem hm
        have top : Top W b (jj + 1) := ⟨by omega, by omega, ej, fun i w hw => bge w (List.mem_of_getElem? hw), fun i w hi hw z => by
          subst z
          have il : i < W.length := (List.getElem?_eq_some_iff.mp hw).1
          have := hge _ (lensI_in (n := ws.length) hw (by omega))
          omega⟩
        rw [← hW] at top
        have E6 := E5.trans ex6
        have hz6 := E6 _ _ hz2
        dsimp only
        refine ⟨_, rfl, .inl ⟨rfl, _, SqL.of hz6⟩, _, rfl, by show 1 ≤ sizeLine; decide, fun l1 f1 m1 => ?_⟩
        have y1 := Ex.new (o := .lst [z]) f1
        refine ⟨_, rfl, l1, 1 + (jj : Int), [z], rfl, rfl, upd_same, by omega, by omega, ?_, fun l2 f2 => ?_⟩
        · have h1 : (1 + (jj : Int)).toNat = jj + 1 := by omega
          rw [h1]
          have : 1000 ≤ sizeLine := by decide
          simp only [List.length_cons, List.length_nil]
          omega
        have h1 : (1 + (jj : Int)).toNat = jj + 1 := by omega
        rw [h1, rep_flat]
        have y2 := Ex.new (o := .lst (List.replicate (jj + 1) z)) f2
        have EY := y1.trans y2
        have hz8 := EY _ _ hz6
        refine ⟨D, l2, zs, List.replicate (jj + 1) z, rfl, rfl, hz8, upd_same, Nat.le_of_lt (small1000 (by rw [List.length_replicate]; omega)), ?_⟩
        generalize hG8 : upd (upd G6 l1 (.lst [z])) l2 (.lst (List.replicate (jj + 1) z)) = G8 at EY hz8
        have up : ExB D G8 (upd G8 D (.lst (zs ++ List.replicate (jj + 1) z))) := ExB.upd (ExB.refl D G8)
        refine ⟨⟨zs ++ List.replicate (jj + 1) z, r ++ List.replicate (jj + 1) b, _, _, _, _, _, _, rfl, Ex.mut ((E3.trans E6).trans EY) nD, upd_same, ?_, ?_, ?_, ?_⟩, ?_⟩
        · rw [List.map_append, List.map_replicate]
          exact (DqAll.frl hz8 up (DqAll.ex ((e3.trans E6).trans EY) _ _ qs)).append (DqAll.rep _ ((f5.ex (ex6.trans EY)).dq.frl hz8 up))
        · rw [List.length_append, List.length_replicate]
          omega
        · intro q hq
          rcases List.mem_append.mp hq with hq | hq
          · exact rb q hq
          · rw [List.eq_of_mem_replicate hq]
            exact f5.bd
        · intro r' f'
          rw [List.append_assoc]
          refine acc _ ?_
          rw [hps]
          refine .step top ?_
          rw [List.length_append, List.length_replicate, ← List.drop_drop, hps] at f'
          exact f'
        · rw [upd_same, hz]
          show ps.length - (zs ++ List.replicate (jj + 1) z).length < ps.length - zs.length
          rw [List.length_append, List.length_replicate]
          omega
      · refine ⟨_, rfl, k D zs r G (e1.trans (Ex.t ex)) (t1.ex ex) (fun q ys hq => (ne_of_none (e1.l hq) nD)) nm hz qs ?_ rb⟩
        have rl' : r.length = ps.length := by
          by_cases h : r.length < ps.length
          · exact absurd (decide_eq_true (by omega)) c
          · omega
        have := acc [] (by rw [List.drop_of_length_le (by omega)]; exact .nil)
        rwa [List.append_nil] at this
    · rintro σ G Q Q' hq ⟨v, h1, p, ys, h2, h3, v', h4, p', ys', h5, h6, i, j, h7, h8, b, h9, h10⟩
      exact ⟨v, h1, p, ys, h2, h3, v', h4, p', ys', h5, h6, i, j, h7, h8, b, h9, hq _ _ h10⟩
end
/-! ### the law's own draws -/
theorem prp_of {q : Rat} (h0 : 0 < q) (h1 : q < 1) : prpB (frd q) = true := by
  unfold prpB
  rw [frB_frd, frQ_frd, Bool.true_and, Bool.and_eq_true, decide_eq_true_iff, decide_eq_true_iff]
  refine ⟨(num_pos_iff q).mpr h0, ?_⟩
  have := (Rat.lt_iff q 1).mp h1
  simpa using this
theorem divInt_prp {n d : Int} (h : 0 < n) (h2 : n < d) : 0 < Rat.divInt n d ∧ Rat.divInt n d < 1 := by
  rw [Rat.divInt_eq_div]
  have hd : (0 : Rat) < (d : Rat) := by exact_mod_cast (by omega : (0 : Int) < d)
  have hn : (0 : Rat) < (n : Rat) := by exact_mod_cast h
  have hnd : (n : Rat) < (d : Rat) := by exact_mod_cast h2
  constructor
  · rw [Rat.lt_div_iff hd]; grind
  · rw [Rat.div_lt_iff hd]; grind
def dShr : List PyData := [.tuple [.int 1, .int 2], .tuple [.int 1, .int 3], .tuple [.int 2, .int 3], .tuple [.int 3, .int 4], .tuple [.int 9, .int 10]]
def dDay : List PyData := [.tuple [.int 1, .int 1], .tuple [.int 0, .int 1], .tuple [.int (-1), .int 1], .tuple [.int 2, .int 1], .tuple [.int 1, .int 2], .tuple [.int 3, .int 1], .tuple [.int (-2), .int 1], .tuple [.int 6, .int 1]]
def bdB (d : PyData) : Bool := decide ((frQ d).num.natAbs < 2 ^ 10) && decide ((frQ d).den < 2 ^ 10)
theorem good_shr : ∀ d ∈ dShr, (prpB d && bdB d) = true := by decide +kernel
theorem good_day : ∀ d ∈ dDay, (frB d && bdB d) = true := by decide +kernel
theorem bdB_bd {d : PyData} (h : bdB d = true) : Bd 10 (frQ d) := by
  unfold bdB at h
  simp only [Bool.and_eq_true, decide_eq_true_eq] at h
  exact h
def tW (n m : Int) : TE := tTup (tCons (tC (.int n)) (tCons (tC (.int m)) tNil))
def tWn (n m : Int) : TE := tTup (tCons (tUn (rU fun i => .int (-i)) (tC (.int n))) (tCons (tC (.int m)) tNil))
section
variable {K : PySem.W.Frag} {p a : Addr} {σ : L2.St} {H : Hp} {N : Nat}
theorem ed_W {n m : Int} : EvD K p (tW n m) σ H (.tuple [.int n, .int m]) := ed_P ed_I ed_I
theorem ed_Wn {n m : Int} : EvD K p (tWn n m) σ H (.tuple [.int (-n), .int m]) := ed_P ed_N ed_I
/-- one of some fractions -/
theorem rd_one {E : XK} {tm : TA} {ds : List PyData} {Q : VK} (hm : EvDs K p tm σ H ds) (hp : Pen H p a N) (h0 : σ[0]? = some (some (.ref p))) (l0 : 0 < ds.length) (l1 : ds.length ≤ 900) (hN : N ≤ 980) (fr : ∀ d ∈ ds, frB d = true)
    (k : ∀ v d H', d ∈ ds → ExB p H H' → Pen H' p a (N + 1) → Dq K p H' v d → Q v H') : tCall (spOne K) [] E (tCons (tVar 0) (tCons (tLst tm) tNil)) σ H Q := by
  refine ⟨_, h0, ?_⟩
  refine hm H (Ex.refl H) _ fun vs H1 e1 qs => ?_
  have vl := qs.len
  refine ⟨Nat.le_of_lt (small1000 (by omega)), fun l fl => ?_⟩
  have x1 := Ex.new (o := .lst vs) fl
  obtain ⟨xp, hxp⟩ := (hp.ex e1).hasP
  have nlp : l ≠ p := (ne_of_none hxp fl).symm
  refine ⟨p, a, l, vs, N, rfl, hp.ex (e1.trans x1), upd_same, nlp, by omega, by omega, by omega, fun x H2 hx eb hp2 => ?_⟩
  obtain ⟨d, hd, qd⟩ := (DqAll.ex x1 _ _ qs).mem x hx
  refine k x d H2 hd ((Ex.b (e1.trans x1)).trans eb) hp2 ?_
  have e := frB_iff (fr d hd)
  rw [e] at qd ⊢
  exact qd.frl (x1 _ _ hxp) eb
end
section
variable {P : Program} {w : World} {K : PySem.W.Frag} {mg : Str → Option Value} {base : Heap}
def spFrL (K : PySem.W.Frag) (f : PyData → Bool) : Sp := fun vs H Q _ => ∃ (p a : Addr) (N : Nat), vs = [.ref p] ∧ Pen H p a N ∧ N ≤ 900 ∧ ∀ v q H', ExB p H H' → Pen H' p a (N + 3) → Fr K 10 q v H' → f (frd q) = true → Q v H'
theorem ok__law_share (T : Txt K mg) : FnOk P w K mg base CX0 4 T.d__law_share.a T.d__law_share.fd ["_law_pen"] (spFrL K prpB) := by
  refine T.d__law_share.F.ok sc__law_share (fun vs H Q E h => ?_) (fun cdv A outer s H vs Q E hr h => ?_)
  · obtain ⟨p, a, N, rfl, _⟩ := h
    rfl
  · obtain ⟨p, a, N, rfl, hp, hN, k⟩ := h
    refine ⟨_, (pss_cons (ps_if (pt_cmpR op_eq (pe_call (ok__law_take T) (hr.mono (by decide)) (by rfl) T.d__law_take.g T.d__law_take.F.kp T.d__law_take.b .nil pass0 (pa_cons (pv 0) (pa_cons pe_int pa_nil))) pe_int (nomark _)) (pss_one (ps_ret (pe_call (ok__law_one T) (hr.mono (by decide)) (by rfl) T.d__law_one.g T.d__law_one.F.kp T.d__law_one.b .nil pass0 (pa_cons (pv 0) (pa_cons (pe_lst (pa_cons (pe_tup (pa_cons pe_int (pa_cons pe_int pa_nil))) (pa_cons (pe_tup (pa_cons pe_int (pa_cons pe_int pa_nil))) (pa_cons (pe_tup (pa_cons pe_int (pa_cons pe_int pa_nil))) (pa_cons (pe_tup (pa_cons pe_int (pa_cons pe_int pa_nil))) (pa_cons (pe_tup (pa_cons pe_int (pa_cons pe_int pa_nil))) pa_nil)))))) pa_nil))))) pss_nil)
      (pss_cons (ps_set (i := 1) sc__law_share.nd rfl (Or.inl rfl) (pe_op op_add pe_int (pe_call (ok__law_take T) (hr.mono (by decide)) (by rfl) T.d__law_take.g T.d__law_take.F.kp T.d__law_take.b .nil pass0 (pa_cons (pv 0) (pa_cons pe_int pa_nil)))))
      (pss_one (ps_ret (pe_call (ok__law_frac T) (hr.mono (by decide)) (by rfl) T.d__law_frac.g T.d__law_frac.F.kp T.d__law_frac.b .nil pass0 (pa_cons (pe_op op_add pe_int (pe_call (ok__law_take T) (hr.mono (by decide)) (by rfl) T.d__law_take.g T.d__law_take.F.kp T.d__law_take.b .nil pass0 (pa_cons (pv 0) (pa_cons (pe_op op_sub (pv 1) pe_int) pa_nil)))) (pa_cons (pv 1) pa_nil))))))), ?_⟩
    refine n_seq ?_
    refine ⟨_, rfl, p, a, 2, N, rfl, hp, by decide, by decide, by omega, fun r H1 r0 r2 eb1 hp1 => ?_⟩
    refine ⟨rfl, _, rfl, ite2 (fun c => ?_) (fun c => ?_)⟩
    · refine rd_one (K := K) (ds := dShr) (eds_cons ed_W (eds_cons ed_W (eds_cons ed_W (eds_cons ed_W (eds_cons ed_W eds_nil))))) hp1 rfl (by decide) (by decide) (by omega) (fun d hd => ?_) fun v d H2 hd eb2 hp2 q => ?_
      · have := good_shr d hd
        unfold prpB at this
        simp only [Bool.and_eq_true] at this
        exact this.1.1
      · have g := good_shr d hd
        simp only [Bool.and_eq_true] at g
        have hb : frB d = true := by
          have := g.1
          unfold prpB at this
          simp only [Bool.and_eq_true] at this
          exact this.1
        exact k v (frQ d) H2 (eb1.trans eb2) (hp2.mono (by omega)) (q.fr hb (bdB_bd g.2)) (by rw [← frB_iff hb]; exact g.1)
    · refine n_next ?_
      dsimp only
      refine n_seq ?_
      refine ⟨_, rfl, p, a, 9, _, rfl, hp1, by decide, by decide, by omega, fun r9 H2 r90 r99 eb2 hp2 => ⟨2, r9, rfl, rfl, ?_⟩⟩
      dsimp only
      refine ⟨_, rfl, _, rfl, _, _, rfl, rfl, p, a, 2 + r9 - 1, _, rfl, hp2, by omega, by omega, by omega, fun rn H3 rn0 rn1 eb3 hp3 => ⟨1, rn, rfl, rfl, _, rfl, 1 + rn, 2 + r9, 10, rfl, by omega, by omega, by omega, by decide, fun z H4 e4 f4 => ?_⟩⟩
      obtain ⟨g1, g2⟩ := divInt_prp (n := 1 + rn) (d := 2 + r9) (by omega) (by omega)
      exact k z _ H4 (((eb1.trans eb2).trans eb3).trans (Ex.b e4)) ((hp3.ex e4).mono (by omega)) f4 (prp_of g1 g2)
theorem ok__law_day_pay (T : Txt K mg) : FnOk P w K mg base CX0 4 T.d__law_day_pay.a T.d__law_day_pay.fd ["_law_pen"] (spFrL K frB) := by
  refine T.d__law_day_pay.F.ok sc__law_day_pay (fun vs H Q E h => ?_) (fun cdv A outer s H vs Q E hr h => ?_)
  · obtain ⟨p, a, N, rfl, _⟩ := h
    rfl
  · obtain ⟨p, a, N, rfl, hp, hN, k⟩ := h
    refine ⟨_, (pss_cons (ps_if (pt_cmpR op_gt (pe_call (ok__law_take T) (hr.mono (by decide)) (by rfl) T.d__law_take.g T.d__law_take.F.kp T.d__law_take.b .nil pass0 (pa_cons (pv 0) (pa_cons pe_int pa_nil))) pe_int (nomark _)) (pss_one (ps_ret (pe_call (ok__law_one T) (hr.mono (by decide)) (by rfl) T.d__law_one.g T.d__law_one.F.kp T.d__law_one.b .nil pass0 (pa_cons (pv 0) (pa_cons (pe_lst (pa_cons (pe_tup (pa_cons pe_int (pa_cons pe_int pa_nil))) (pa_cons (pe_tup (pa_cons pe_int (pa_cons pe_int pa_nil))) (pa_cons (pe_tup (pa_cons (pe_un un_neg pe_int) (pa_cons pe_int pa_nil))) (pa_cons (pe_tup (pa_cons pe_int (pa_cons pe_int pa_nil))) (pa_cons (pe_tup (pa_cons pe_int (pa_cons pe_int pa_nil))) (pa_cons (pe_tup (pa_cons pe_int (pa_cons pe_int pa_nil))) (pa_cons (pe_tup (pa_cons (pe_un un_neg pe_int) (pa_cons pe_int pa_nil))) (pa_cons (pe_tup (pa_cons pe_int (pa_cons pe_int pa_nil))) pa_nil))))))))) pa_nil))))) pss_nil)
      (pss_one (ps_ret (pe_call (ok__law_frac T) (hr.mono (by decide)) (by rfl) T.d__law_frac.g T.d__law_frac.F.kp T.d__law_frac.b .nil pass0 (pa_cons (pe_op op_sub (pe_call (ok__law_take T) (hr.mono (by decide)) (by rfl) T.d__law_take.g T.d__law_take.F.kp T.d__law_take.b .nil pass0 (pa_cons (pv 0) (pa_cons pe_int pa_nil))) pe_int) (pa_cons (pe_op op_add pe_int (pe_call (ok__law_take T) (hr.mono (by decide)) (by rfl) T.d__law_take.g T.d__law_take.F.kp T.d__law_take.b .nil pass0 (pa_cons (pv 0) (pa_cons pe_int pa_nil)))) pa_nil)))))), ?_⟩
    refine n_seq ?_
    refine ⟨_, rfl, p, a, 3, N, rfl, hp, by decide, by decide, by omega, fun r H1 r0 r2 eb1 hp1 => ?_⟩
    refine ⟨_, _, rfl, rfl, _, rfl, ite2 (fun c => ?_) (fun c => ?_)⟩
    · refine rd_one (K := K) (ds := dDay) (eds_cons ed_W (eds_cons ed_W (eds_cons ed_Wn (eds_cons ed_W (eds_cons ed_W (eds_cons ed_W (eds_cons ed_Wn (eds_cons ed_W eds_nil)))))))) hp1 rfl (by decide) (by decide) (by omega) (fun d hd => ?_) fun v d H2 hd eb2 hp2 q => ?_
      · have := good_day d hd
        simp only [Bool.and_eq_true] at this
        exact this.1
      · have g := good_day d hd
        simp only [Bool.and_eq_true] at g
        exact k v (frQ d) H2 (eb1.trans eb2) (hp2.mono (by omega)) (q.fr g.1 (bdB_bd g.2)) (frB_frd _)
    · refine n_next ?_
      dsimp only
      refine ⟨_, rfl, p, a, 41, _, rfl, hp1, by decide, by decide, by omega, fun r4 H2 r40 r44 eb2 hp2 => ⟨r4, 20, rfl, rfl, _, rfl, p, a, 6, _, rfl, hp2, by decide, by decide, by omega, fun r6 H3 r60 r66 eb3 hp3 => ⟨1, r6, rfl, rfl, r4 - 20, 1 + r6, 10, rfl, by omega, by omega, by omega, by decide, fun z H4 e4 f4 => ?_⟩⟩⟩
      exact k z _ H4 (((eb1.trans eb2).trans eb3).trans (Ex.b e4)) ((hp3.ex e4).mono (by omega)) f4 (frB_frd _)
def spPrjL (K : PySem.W.Frag) : Sp := fun vs H Q _ => ∃ (p a : Addr) (m N : Nat), vs = [.ref p, .int (m : Nat)] ∧ Pen H p a N ∧ m ≤ 8 ∧ N ≤ 800 ∧ ∀ (v : V) (qs : List Rat) (H' : Hp), ExB p H H' → Pen H' p a (N + 24) → Dq K p H' v (.tuple (qs.map frd)) → (∀ q ∈ qs, Bd 10 q) → qs.length = m → Q v H'
theorem ok__law_project (T : Txt K mg) : FnOk P w K mg base CX0 5 T.d__law_project.a T.d__law_project.fd ["_law_pen", "_law_many"] (spPrjL K) := by
  refine T.d__law_project.F.ok sc__law_project (fun vs H Q E h => ?_) (fun cdv A outer s H vs Q E hr h => ?_)
  · obtain ⟨p, a, m, N, rfl, _⟩ := h
    rfl
  · obtain ⟨p, a, m, N, rfl, hp, hm, hN, k⟩ := h
    refine ⟨_, (pss_one (ps_ret (pe_callTy call_tuple_of (by rfl) T.n_tuple (by decide +kernel) (pa_cons (pe_lc (own := [("_law_day", 2)]) (g := gName 2) (tt := tYes) rfl sc__law_project.nd (pi_range1 (by rfl) T.n_range (pa_cons (pv 1) pa_nil)) (blkOk_by (own := [("_law_day", 2)]) (N := n__law_project) (sc := defScope s__law_project) (by decide +kernel)) (fun _ _ _ _ _ => pg_name (i := 2) sc__law_project.nd rfl (Or.inl rfl)) (fun _ _ _ _ _ => pts_nil) (fun _ _ _ _ _ => (pe_call (ok__law_day_pay T) (hr.mono (by decide)) (by rfl) T.d__law_day_pay.g T.d__law_day_pay.F.kp T.d__law_day_pay.b .nil pass0 (pa_cons (pv 0) pa_nil)))) pa_nil)))), ?_⟩
    refine ⟨_, rfl, (m : Int), rfl, by omega, by omega, fun D nD => ?_⟩
    obtain ⟨xp, hxp⟩ := hp.hasP
    obtain ⟨xa, hxa⟩ := hp.hasC
    have nDp : D ≠ p := (ne_of_none hxp nD).symm
    have nDa : D ≠ a := (ne_of_none hxa nD).symm
    refine lc_range (lo := 0) (n := m) (fun j G => Pen G p a (N + 3 * j) ∧ ExB p H G ∧ ∃ zs qs, G D = some (.lst zs) ∧ zs.length = j ∧ DqAll K p G zs (qs.map frd) ∧ qs.length = j ∧ ∀ q ∈ qs, Bd 10 q) ⟨hp.ex (Ex.new nD), Ex.b (Ex.new nD), [], [], upd_same, rfl, .nil, rfl, fun _ z => (nomatch z)⟩ ?_ ?_
    · rintro j G hj ⟨hpG, ebG, zs, qs, hz, hzl, dq, ql, bq⟩
      refine ⟨rfl, ?_⟩
      refine yes_of ?_
      rw [if_pos rfl]
      refine ⟨_, rfl, p, a, _, rfl, hpG, by omega, fun v q G2 eb2 hp2 fv _ => ?_⟩
      obtain ⟨xg, hxg⟩ := hpG.hasP
      have hz2 := eb2 _ _ nDp hz
      have up : ExB D G2 (upd G2 D (.lst (zs ++ [v]))) := ExB.upd (ExB.refl D G2)
      refine ⟨zs, hz2, small1000 (by omega), (hp2.upd nDp nDa).mono (by omega), fun b o nb hb => ?_, zs ++ [v], qs ++ [q], upd_same, by rw [List.length_append, hzl]; rfl, ?_, by rw [List.length_append, ql]; rfl, ?_⟩
      · rw [upd_ne (ne_of_none hb nD)]
        exact eb2 _ _ nb (ebG _ _ nb hb)
      · rw [List.map_append]
        exact (DqAll.frl hz2 up (DqAll.frl hxg eb2 dq)).append (.cons (fv.dq.frl hz2 up) .nil)
      · intro x hx
        rcases List.mem_append.mp hx with hx | hx
        · exact bq x hx
        · rw [List.mem_singleton] at hx
          rw [hx]
          exact fv.bd
    · rintro G ⟨hpG, ebG, zs, qs, hz, hzl, dq, ql, bq⟩
      refine ⟨D, zs, rfl, .inl ⟨SqL.of hz, fun t ft => ?_⟩⟩
      have x1 := Ex.new (o := .tup zs) ft
      exact k (.ref t) qs _ (ebG.trans (Ex.b x1)) ((hpG.ex x1).mono (by omega)) (.tup (SqT.of upd_same) (DqAll.ex x1 _ _ dq)) bq ql
def spRun (K : PySem.W.Frag) : Sp := fun vs H Q _ => ∃ (p a : Addr) (u : V) (xs : List V) (s : Rat) (qs : List Rat), vs = [u, .ref a] ∧ Fr K 10 s u H ∧ (SqT K H a xs ∨ H a = some (.lst xs)) ∧ DqAll K p H xs (qs.map frd) ∧ (∀ q ∈ qs, Bd 10 q) ∧ qs.length ≤ 8 ∧
  ∀ z H', Ex H H' → Fr K 801 (paidQ s qs) z H' → Q z H'
theorem ok__law_run_worth (T : Txt K mg) : FnOk P w K mg base CX0 4 T.d__law_run_worth.a T.d__law_run_worth.fd ["_law_part", "_law_row"] (spRun K) := by
  refine T.d__law_run_worth.F.ok sc__law_run_worth (fun vs H Q E h => ?_) (fun cdv A outer s H vs Q E hr h => ?_)
  · obtain ⟨p, a, u, xs, s', qs, rfl, _⟩ := h
    rfl
  · obtain ⟨p, a, u, xs, s', qs, rfl, fs, hxs, hA, hb, l8, k⟩ := h
    have xl : xs.length = qs.length := by rw [hA.len, List.length_map]
    rcases hxs with hS | hL
    · refine ⟨_, (pss_cons (ps_asg (pe_tup (pa_cons (pe_tup (pa_cons pe_int (pa_cons pe_int pa_nil))) (pa_cons (pe_tup (pa_cons pe_int (pa_cons pe_int pa_nil))) pa_nil))) (pg_tup (by rfl) (pgs_cons (pg_name (i := 2) sc__law_run_worth.nd rfl (Or.inl rfl)) (pgs_cons (pg_name (i := 3) sc__law_run_worth.nd rfl (Or.inl rfl)) pgs_nil))))
      (pss_cons (ps_for PassesOwn.never rfl (pi_tup (pv 1)) (pg_name (i := 4) sc__law_run_worth.nd rfl (Or.inl rfl)) (pss_one (ps_par (i := 2) (j := 3) (by rfl) sc__law_run_worth.nd rfl rfl (by decide) rfl rfl (pa_cons (pe_call (ok__law_add T) (hr.mono (by decide)) (by rfl) T.d__law_add.g T.d__law_add.F.kp T.d__law_add.b .nil pass0 (pa_cons (pv 2) (pa_cons (pe_call (ok__law_mul T) (hr.mono (by decide)) (by rfl) T.d__law_mul.g T.d__law_mul.F.kp T.d__law_mul.b .nil pass0 (pa_cons (pv 3) (pa_cons (pv 4) pa_nil))) pa_nil))) (pa_cons (pe_call (ok__law_mul T) (hr.mono (by decide)) (by rfl) T.d__law_mul.g T.d__law_mul.F.kp T.d__law_mul.b .nil pass0 (pa_cons (pv 3) (pa_cons (pv 0) pa_nil))) pa_nil)) (by rfl))))
      (pss_one (ps_ret (pv 2))))), ?_⟩
      refine n_seq ?_
      refine ⟨by show 2 ≤ sizeLine; decide, fun t1 f1 => ⟨by show 2 ≤ sizeLine; decide, fun t2 f2 => ⟨by show 2 ≤ sizeLine; decide, fun t3 f3 => ?_⟩⟩⟩
      have x2 := Ex.new (o := .tup [.int 1, .int 1]) f2
      have x3 := Ex.new (o := .tup [.ref t1, .ref t2]) f3
      have e0 := ((Ex.new (o := .tup [.int 0, .int 1]) f1).trans x2).trans x3
      have b1 : Fr K 1 0 (.ref t1) (upd (upd (upd H t1 (.tup [.int 0, .int 1])) t2 (.tup [.int 1, .int 1])) t3 (.tup [.ref t1, .ref t2])) := ⟨_, rfl, SqT.of (x3 _ _ (x2 _ _ upd_same)), by decide, by decide⟩
      have b2 : Fr K 1 1 (.ref t2) (upd (upd (upd H t1 (.tup [.int 0, .int 1])) t2 (.tup [.int 1, .int 1])) t3 (.tup [.ref t1, .ref t2])) := ⟨_, rfl, SqT.of (x3 _ _ upd_same), by decide, by decide⟩
      refine ⟨t3, _, rfl, SqT.of upd_same, rfl, _, _, rfl, _, _, rfl, rfl, ?_⟩
      dsimp only
      refine n_seq ?_
      refine ⟨_, rfl, a, rfl, ⟨_, ex_t e0 hS⟩, ?_⟩
      refine for_tup (K := K) (a := a) (xs := xs) (fun i σ G => Ex H G ∧ ∃ (z1 z2 : V) (y : Option V), σ = [some u, some (.ref a), some z1, some z2, y] ∧ Fr K (1 + 100 * i) (paidQ s' (qs.take i)) z1 G ∧ Fr K (1 + 11 * i) (s' ^ i) z2 G) ⟨e0, _, _, none, rfl, b1, by rw [Rat.pow_zero]; exact b2⟩ (fun i σ G _ h => ex_t h.1 hS) ?_ ?_
      · rintro i x σ G hx ⟨ex, z1, z2, y, rfl, f1, f2⟩
        have il : i < xs.length := (List.getElem?_eq_some_iff.mp hx).1
        obtain ⟨q, hq, fx⟩ := (DqAll.ex ex _ _ hA).fr_at hb hx
        have tl : (qs.take i).length = i := by rw [List.length_take]; omega
        have te : qs.take (i + 1) = qs.take i ++ [q] := by
          rw [List.take_succ, hq]
          rfl
        have pe : paidQ s' (qs.take (i + 1)) = paidQ s' (qs.take i) + s' ^ i * q := by
          rw [te, paid_app, tl]
          show _ + _ * (q + s' * 0) = _
          grind
        refine n_name ?_
        dsimp only
        refine ep_2L (K := K) (n := 1 + 100 * i + (1 + 11 * i + 10 + 1) + 1) (ep_var rfl f1) (ep_2L (n := 1 + 11 * i + 10 + 1) (ep_var rfl f2) (ep_var rfl fx) trivial (by omega) rfl) trivial (by omega) rfl G (Ex.refl _) _ fun w1 G2 e2 g1 => ?_
        refine ep_2L (K := K) (n := 1 + 11 * i + 10 + 1) (ep_var rfl (f2.ex e2)) (ep_var rfl (fs.ex (ex.trans e2))) trivial (by omega) rfl G2 (Ex.refl _) _ fun w2 G3 e3 g2 => ?_
        refine ⟨w1, w2, rfl, ?_⟩
        refine ⟨(ex.trans e2).trans e3, w1, w2, _, rfl, ?_, ?_⟩
        · rw [pe]
          exact (g1.ex e3).mono (by omega)
        · rw [Rat.pow_succ]
          exact g2.mono (by omega)
      · rintro σ G ⟨ex, z1, z2, y, rfl, f1, f2⟩
        rw [xl, List.take_of_length_le (Nat.le_refl _)] at f1
        exact ⟨_, rfl, k z1 G ex (f1.mono (by omega))⟩
    · refine ⟨_, (pss_cons (ps_asg (pe_tup (pa_cons (pe_tup (pa_cons pe_int (pa_cons pe_int pa_nil))) (pa_cons (pe_tup (pa_cons pe_int (pa_cons pe_int pa_nil))) pa_nil))) (pg_tup (by rfl) (pgs_cons (pg_name (i := 2) sc__law_run_worth.nd rfl (Or.inl rfl)) (pgs_cons (pg_name (i := 3) sc__law_run_worth.nd rfl (Or.inl rfl)) pgs_nil))))
      (pss_cons (ps_for PassesOwn.never rfl (pi_list (pv 1)) (pg_name (i := 4) sc__law_run_worth.nd rfl (Or.inl rfl)) (pss_one (ps_par (i := 2) (j := 3) (by rfl) sc__law_run_worth.nd rfl rfl (by decide) rfl rfl (pa_cons (pe_call (ok__law_add T) (hr.mono (by decide)) (by rfl) T.d__law_add.g T.d__law_add.F.kp T.d__law_add.b .nil pass0 (pa_cons (pv 2) (pa_cons (pe_call (ok__law_mul T) (hr.mono (by decide)) (by rfl) T.d__law_mul.g T.d__law_mul.F.kp T.d__law_mul.b .nil pass0 (pa_cons (pv 3) (pa_cons (pv 4) pa_nil))) pa_nil))) (pa_cons (pe_call (ok__law_mul T) (hr.mono (by decide)) (by rfl) T.d__law_mul.g T.d__law_mul.F.kp T.d__law_mul.b .nil pass0 (pa_cons (pv 3) (pa_cons (pv 0) pa_nil))) pa_nil)) (by rfl))))
      (pss_one (ps_ret (pv 2))))), ?_⟩
      refine n_seq ?_
      refine ⟨by show 2 ≤ sizeLine; decide, fun t1 f1 => ⟨by show 2 ≤ sizeLine; decide, fun t2 f2 => ⟨by show 2 ≤ sizeLine; decide, fun t3 f3 => ?_⟩⟩⟩
      have x2 := Ex.new (o := .tup [.int 1, .int 1]) f2
      have x3 := Ex.new (o := .tup [.ref t1, .ref t2]) f3
      have e0 := ((Ex.new (o := .tup [.int 0, .int 1]) f1).trans x2).trans x3
      have b1 : Fr K 1 0 (.ref t1) (upd (upd (upd H t1 (.tup [.int 0, .int 1])) t2 (.tup [.int 1, .int 1])) t3 (.tup [.ref t1, .ref t2])) := ⟨_, rfl, SqT.of (x3 _ _ (x2 _ _ upd_same)), by decide, by decide⟩
      have b2 : Fr K 1 1 (.ref t2) (upd (upd (upd H t1 (.tup [.int 0, .int 1])) t2 (.tup [.int 1, .int 1])) t3 (.tup [.ref t1, .ref t2])) := ⟨_, rfl, SqT.of (x3 _ _ upd_same), by decide, by decide⟩
      refine ⟨t3, _, rfl, SqT.of upd_same, rfl, _, _, rfl, _, _, rfl, rfl, ?_⟩
      dsimp only
      refine n_seq ?_
      refine ⟨_, rfl, a, rfl, ⟨_, SqL.of (e0 _ _ hL)⟩, ?_⟩
      refine for_list (K := K) (a := a) (xs := xs) (fun i σ G => Ex H G ∧ ∃ (z1 z2 : V) (y : Option V), σ = [some u, some (.ref a), some z1, some z2, y] ∧ Fr K (1 + 100 * i) (paidQ s' (qs.take i)) z1 G ∧ Fr K (1 + 11 * i) (s' ^ i) z2 G) ⟨e0, _, _, none, rfl, b1, by rw [Rat.pow_zero]; exact b2⟩ (fun i σ G _ h => SqL.of (h.1 _ _ hL)) ?_ ?_
      · rintro i x σ G hx ⟨ex, z1, z2, y, rfl, f1, f2⟩
        have il : i < xs.length := (List.getElem?_eq_some_iff.mp hx).1
        obtain ⟨q, hq, fx⟩ := (DqAll.ex ex _ _ hA).fr_at hb hx
        have tl : (qs.take i).length = i := by rw [List.length_take]; omega
        have te : qs.take (i + 1) = qs.take i ++ [q] := by
          rw [List.take_succ, hq]
          rfl
        have pe : paidQ s' (qs.take (i + 1)) = paidQ s' (qs.take i) + s' ^ i * q := by
          rw [te, paid_app, tl]
          show _ + _ * (q + s' * 0) = _
          grind
        refine n_name ?_
        dsimp only
        refine ep_2L (K := K) (n := 1 + 100 * i + (1 + 11 * i + 10 + 1) + 1) (ep_var rfl f1) (ep_2L (n := 1 + 11 * i + 10 + 1) (ep_var rfl f2) (ep_var rfl fx) trivial (by omega) rfl) trivial (by omega) rfl G (Ex.refl _) _ fun w1 G2 e2 g1 => ?_
        refine ep_2L (K := K) (n := 1 + 11 * i + 10 + 1) (ep_var rfl (f2.ex e2)) (ep_var rfl (fs.ex (ex.trans e2))) trivial (by omega) rfl G2 (Ex.refl _) _ fun w2 G3 e3 g2 => ?_
        refine ⟨w1, w2, rfl, ?_⟩
        refine ⟨(ex.trans e2).trans e3, w1, w2, _, rfl, ?_, ?_⟩
        · rw [pe]
          exact (g1.ex e3).mono (by omega)
        · rw [Rat.pow_succ]
          exact g2.mono (by omega)
      · rintro σ G ⟨ex, z1, z2, y, rfl, f1, f2⟩
        rw [xl, List.take_of_length_le (Nat.le_refl _)] at f1
        exact ⟨_, rfl, k z1 G ex (f1.mono (by omega))⟩
end
/-! ### the law's own falling wages -/
theorem walk_revT {K : PySem.W.Frag} {a : Addr} {xs : List V} : Walk (RT.ItvT K a xs.length) xs.length (fun H => SqT K H a xs) (fun i H x H' => H' = H ∧ xs[xs.length - 1 - i]? = some x) :=
  ⟨fun i _ hi q => ⟨hi, xs, xs[xs.length - 1 - i]'(by omega), q, by simp [show xs.length - 1 - i < xs.length by omega]⟩, fun _ _ => Nat.le_refl _, fun _ _ _ _ _ q y => ⟨y.1, y.2 xs q⟩⟩
theorem ev_isN {i : Nat} {x : V} {σ : L2.St} {H : Hp} (hv : σ[i]? = some (some x)) : Ev (tOp (fun x y H Q => y = V.non ∧ Q (V.bl (decide (x = V.non))) H) (tVar i) (tC V.non)) σ H (.bl (decide (x = V.non))) := fun H1 e Q k => ⟨x, hv, rfl, k H1 (Ex.refl H1)⟩
theorem top_new {ws : List Rat} {w : Rat} (h : ∀ x ∈ ws, x ≤ w) : Top (ws ++ [w]) w (ws.length + 1) := by
  refine ⟨by omega, by rw [List.length_append]; exact Nat.le_refl _, ?_, fun i x hx => ?_, fun i x hi hx => ?_⟩
  · rw [Nat.add_sub_cancel, List.getElem?_append_right (Nat.le_refl _), Nat.sub_self]
    rfl
  · rcases List.mem_append.mp (List.mem_of_getElem? hx) with hm | hm
    · exact h x hm
    · rw [List.mem_singleton] at hm
      rw [hm]
      exact Rat.le_refl
  · have := (List.getElem?_eq_some_iff.mp hx).1
    rw [List.length_append, List.length_singleton] at this
    omega
theorem top_keep {ws : List Rat} {b w : Rat} {L : Nat} (h : Top ws b L) (c : w < b) : Top (ws ++ [w]) b L := by
  have h1 := h.one
  have h2 := h.le
  refine ⟨h1, by rw [List.length_append]; omega, ?_, fun i x hx => ?_, fun i x hi hx => ?_⟩
  · rw [List.getElem?_append_left (by omega)]
    exact h.at_
  · by_cases d : i < ws.length
    · rw [List.getElem?_append_left d] at hx
      exact h.most i x hx
    · have hl := (List.getElem?_eq_some_iff.mp hx).1
      rw [List.length_append, List.length_singleton] at hl
      rw [List.getElem?_append_right (by omega), show i - ws.length = 0 by omega] at hx
      cases hx
      grind
  · by_cases d : i < ws.length
    · rw [List.getElem?_append_left d] at hx
      exact h.last i x hi hx
    · have hl := (List.getElem?_eq_some_iff.mp hx).1
      rw [List.length_append, List.length_singleton] at hl
      rw [List.getElem?_append_right (by omega), show i - ws.length = 0 by omega] at hx
      cases hx
      grind
section
variable {P : Program} {w : World} {K : PySem.W.Frag} {mg : Str → Option Value} {base : Heap}
def spTermL (K : PySem.W.Frag) : Sp := fun vs H Q _ => ∃ (p : Addr) (u v : V) (s : PyData) (qs : List PyData), vs = [u, v] ∧ Dq K p H u s ∧ Dq K p H v (.tuple qs) ∧ qs.length ≤ 8 ∧ ∀ x H', Ex H H' → Dq K p H' x (termP s qs) → Q x H'
theorem ok__law_project_term (T : Txt K mg) : FnOk P w K mg base CX0 1 T.d__law_project_term.a T.d__law_project_term.fd ["_law_part", "_law_project_here"] (spTermL K) := by
  refine T.d__law_project_term.F.ok sc__law_project_term (fun vs H Q E h => ?_) (fun cdv A outer s H vs Q E hr h => ?_)
  · obtain ⟨p, u, v, s', qs, rfl, _⟩ := h
    rfl
  · obtain ⟨p, u, v, s', qs, rfl, hu', hv, l8, k⟩ := h
    refine ⟨_, (pss_cons (ps_set (i := 2) sc__law_project_term.nd rfl (Or.inl rfl) (pe_tup (pa_cons pe_str pa_nil)))
      (pss_cons (ps_for PassesOwn.never rfl (RT.pi_revA (by rfl) T.n_reversed (pv 1)) (pg_name (i := 3) sc__law_project_term.nd rfl (Or.inl rfl)) (pss_one (ps_set (i := 2) sc__law_project_term.nd rfl (Or.inl rfl) (pe_tup (pa_cons pe_str (pa_cons (pv 3) (pa_cons (pe_tup (pa_cons (pe_tup (pa_cons (pv 0) (pa_cons (pv 2) pa_nil))) pa_nil)) pa_nil)))))))
      (pss_one (ps_ret (pv 2))))), ?_⟩
    obtain ⟨a, xs, rfl, hS, hA⟩ := hv.seq
    have xl : xs.length = qs.length := hA.len
    refine n_seq ?_
    refine s_asgP (ed_tup (K := K) (p := p) (ds := [.str "end"]) (eds_cons ed_str eds_nil) (by decide)) fun z0 H0 e0 q0 => ?_
    dsimp only
    refine n_seq ?_
    refine ⟨_, rfl, a, xs, rfl, .inr ⟨ex_t e0 hS, ?_⟩⟩
    refine for_it (walk_revT (K := K) (a := a) (xs := xs)) (fun i σ G => Ex H0 G ∧ ∃ (z : V) (y : Option V), σ = [some u, some (.ref a), some z, y] ∧ Dq K p G z ((qs.reverse.take i).foldl (fun t q => PyData.tuple [.str "step", q, .tuple [.tuple [s', t]]]) (.tuple [.str "end"]))) ⟨Ex.refl _, _, none, rfl, q0⟩ (fun i σ G _ h => ex_t (e0.trans h.1) hS) ?_ ?_
    · rintro i x σ G G' hi ⟨ex, z, y, rfl, qz⟩ ⟨rfl, hx⟩
      have E1 := e0.trans ex
      have hA1 := (DqAll.ex E1 _ _ hA).rev
      have hx' : xs.reverse[i]? = some x := by
        rw [List.getElem?_reverse hi]
        exact hx
      obtain ⟨qi, hqi⟩ : ∃ qi, qs.reverse[i]? = some qi := ⟨_, List.getElem?_eq_getElem (by rw [List.length_reverse]; omega)⟩
      obtain ⟨x', hx2, qx⟩ := hA1.get hqi
      rw [hx'] at hx2
      cases hx2
      refine n_name ?_
      dsimp only
      refine s_asgP (ed_tup (K := K) (p := p) (eds_cons ed_str (eds_cons (ed_var rfl qx) (eds_cons (ed_tup (eds_cons (ed_tup (eds_cons (ed_var rfl (Dq.ex E1 _ _ hu')) (eds_cons (ed_var rfl qz) eds_nil)) (by show 2 ≤ 1000; decide)) eds_nil) (by show 1 ≤ 1000; decide)) eds_nil))) (by show 3 ≤ 1000; decide)) fun w G2 e2 qw => ?_
      refine ⟨ex.trans e2, w, _, rfl, ?_⟩
      rw [List.take_succ, hqi, List.foldl_append]
      exact qw
    · rintro σ G ⟨ex, z, y, rfl, qz⟩
      rw [xl, show qs.length = qs.reverse.length by rw [List.length_reverse], List.take_length, termP_rev] at qz
      exact ⟨_, rfl, k z G (e0.trans ex) qz⟩
def spFallL (K : PySem.W.Frag) : Sp := fun vs H Q _ => ∃ (p : Addr) (u v : V) (xp : List V) (s : Rat) (qs : List Rat), vs = [u, v] ∧ H p = some (.lst xp) ∧ Fr K 10 s u H ∧ 0 < s ∧ Dq K p H v (.tuple (qs.map frd)) ∧ (∀ q ∈ qs, Bd 10 q) ∧ qs.length ≤ 8 ∧
  ∀ (l : Addr) (zs : List V) (r : List Rat) (H' : Hp), Ex H H' → l ≠ p → l ≠ sysModules → H' l = some (.lst zs) → DqAll K p H' zs (r.map frd) → Fall s qs r → Q (.ref l) H'
theorem ok__law_falling (T : Txt K mg) : FnOk P w K mg base CX0 5 T.d__law_falling.a T.d__law_falling.fd ["_law_part", "_law_project_here"] (spFallL K) := by
  refine T.d__law_falling.F.ok sc__law_falling (fun vs H Q E h => ?_) (fun cdv A outer s H vs Q E hr h => ?_)
  · obtain ⟨p, u, v, xp, s', qs, rfl, _⟩ := h
    rfl
  · obtain ⟨p, u, v, xp, s', qs, rfl, hxp, fs, s0, hv, hb, l8, k⟩ := h
    refine ⟨_, (pss_cons (ps_par (i := 2) (j := 3) (by rfl) sc__law_falling.nd rfl rfl (by decide) rfl rfl (pa_cons (pe_lstN pa_nil) (pa_cons (pe_lc (own := [("_law_day", 10)]) (g := gName 10) (tt := tYes) rfl sc__law_falling.nd (pi_tup (pv 1)) (blkOk_by (own := [("_law_day", 10)]) (N := n__law_falling) (sc := defScope s__law_falling) (by decide +kernel)) (fun _ _ _ _ _ => pg_name (i := 10) sc__law_falling.nd rfl (Or.inl rfl)) (fun _ _ _ _ _ => pts_nil) (fun _ _ _ _ _ => (pe_tup (pa_cons pe_int (pa_cons pe_int pa_nil))))) pa_nil)) (by rfl))
      (pss_cons (ps_for PassesOwn.never rfl (pi_range1 (by rfl) T.n_range (pa_cons (pe_callB call_len_seq (by rfl) T.n_len (by decide +kernel) (pa_cons (pv 1) pa_nil)) pa_nil)) (pg_name (i := 4) sc__law_falling.nd rfl (Or.inl rfl)) (pss_cons (ps_asg (pe_tup (pa_cons (pe_slice sl_tupA (pv 1) (po_some (pe_callB call_len_seq (by rfl) T.n_len (by decide +kernel) (pa_cons (pv 2) pa_nil))) po_none) (pa_cons pe_non (pa_cons pe_int pa_nil)))) (pg_tup (by rfl) (pgs_cons (pg_name (i := 5) sc__law_falling.nd rfl (Or.inl rfl)) (pgs_cons (pg_name (i := 6) sc__law_falling.nd rfl (Or.inr rfl)) (pgs_cons (pg_name (i := 7) sc__law_falling.nd rfl (Or.inl rfl)) pgs_nil)))))
      (pss_cons (ps_for PassesOwn.never rfl (pi_range2 (by rfl) T.n_range (pa_cons pe_int (pa_cons (pe_op op_add (pe_callB call_len_seq (by rfl) T.n_len (by decide +kernel) (pa_cons (pv 5) pa_nil)) pe_int) pa_nil))) (pg_name (i := 8) sc__law_falling.nd rfl (Or.inl rfl)) (pss_cons (ps_set (i := 9) sc__law_falling.nd rfl (Or.inl rfl) (pe_call (ok__law_over T) (hr.mono (by decide)) (by rfl) T.d__law_over.g T.d__law_over.F.kp T.d__law_over.b .nil pass0 (pa_cons (pe_call (ok__law_run_worth T) (hr.mono (by decide)) (by rfl) T.d__law_run_worth.g T.d__law_run_worth.F.kp T.d__law_run_worth.b .nil pass0 (pa_cons (pv 0) (pa_cons (pe_slice sl_tupA (pv 5) po_none (po_some (pv 8))) pa_nil))) (pa_cons (pe_call (ok__law_run_worth T) (hr.mono (by decide)) (by rfl) T.d__law_run_worth.g T.d__law_run_worth.F.kp T.d__law_run_worth.b .nil pass0 (pa_cons (pv 0) (pa_cons (pe_slice sl_list (pv 3) po_none (po_some (pv 8))) pa_nil))) pa_nil))))
      (pss_one (ps_if (PW.pt (pw_or (pt_cmpR op_isN (pv 6) pe_non (nomark _)) (pw_or1 (pt_not (pt_val (pe_call (ok__law_is_less T) (hr.mono (by decide)) (by rfl) T.d__law_is_less.g T.d__law_is_less.F.kp T.d__law_is_less.b .nil pass0 (pa_cons (pv 9) (pa_cons (pv 6) pa_nil)))))))) (pss_one (ps_asg (pe_tup (pa_cons (pv 9) (pa_cons (pv 8) pa_nil))) (pg_tup (by rfl) (pgs_cons (pg_name (i := 6) sc__law_falling.nd rfl (Or.inr rfl)) (pgs_cons (pg_name (i := 7) sc__law_falling.nd rfl (Or.inl rfl)) pgs_nil))))) pss_nil))))
      (pss_one (ps_set (i := 2) sc__law_falling.nd rfl (Or.inl rfl) (pe_op op_catN (pv 2) (pe_lc (own := [("_law_day", 10)]) (g := gName 10) (tt := tYes) rfl sc__law_falling.nd (pi_range1 (by rfl) T.n_range (pa_cons (pv 7) pa_nil)) (blkOk_by (own := [("_law_day", 10)]) (N := n__law_falling) (sc := defScope s__law_falling) (by decide +kernel)) (fun _ _ _ _ _ => pg_name (i := 10) sc__law_falling.nd rfl (Or.inl rfl)) (fun _ _ _ _ _ => pts_nil) (fun _ _ _ _ _ => (pv 6)))))))))
      (pss_one (ps_ret (pv 2))))), ?_⟩
    obtain ⟨a, xs, rfl, hS, hA⟩ := hv.seq
    have xl : xs.length = qs.length := by rw [hA.len, List.length_map]
    refine n_seq ?_
    refine ⟨by show 0 ≤ sizeLine; decide, fun D0 nD0 nm0 => ?_⟩
    have x0 := Ex.new (o := .lst []) nD0
    refine ⟨_, rfl, a, rfl, ⟨_, ex_t x0 hS⟩, fun D1 nD1 => ?_⟩
    refine lc_tup (K := K) (a := a) (xs := xs) (fun i G => Ex (upd H D0 (.lst [])) G ∧ ∃ zs, G D1 = some (.lst zs) ∧ zs.length = i ∧ DqAll K p G zs ((List.replicate i (1 : Rat)).map frd)) ⟨Ex.new nD1, [], upd_same, rfl, .nil⟩ (fun i G _ h => ex_t (x0.trans h.1) hS) ?_ ?_
    · rintro i x G hx ⟨exG, zs, hz, hzl, qs'⟩
      have il : i < xs.length := (List.getElem?_eq_some_iff.mp hx).1
      refine ⟨rfl, ?_⟩
      refine yes_of ?_
      rw [if_pos rfl]
      refine (ed_tup (K := K) (p := p) (ds := [.int 1, .int 1]) (eds_cons ed_int (eds_cons ed_int eds_nil)) (by decide)) G (Ex.refl _) _ fun y G2 e2 qy => ?_
      have hz2 := e2 _ _ hz
      have up : ExB D1 G2 (upd G2 D1 (.lst (zs ++ [y]))) := ExB.upd (ExB.refl D1 G2)
      refine ⟨zs, hz2, small1000 (by omega), Ex.mut (exG.trans e2) nD1, zs ++ [y], upd_same, by rw [List.length_append, hzl]; rfl, ?_⟩
      rw [List.replicate_succ', List.map_append]
      exact (DqAll.frl hz2 up (DqAll.ex e2 _ _ qs')).append (.cons (Dq.frl (q := 1) hz2 up qy) .nil)
    rintro G1 ⟨ex1, os, hos, osl, qos⟩
    have e1 := x0.trans ex1
    refine ⟨_, _, rfl, ?_⟩
    dsimp only
    refine n_seq ?_
    refine ⟨_, rfl, a, xs, rfl, .inr (ex_t e1 hS), (xs.length : Int), rfl, by omega, by omega, ?_⟩
    have D0p : D0 ≠ p := (ne_of_none hxp nD0).symm
    refine for_range (lo := 0) (n := xs.length) (fun j σ G => ∃ (D : Addr) (zs : List V) (r : List Rat) (y4 y5 y6 y7 y8 y9 y10 : Option V), σ = [some u, some (.ref a), some (.ref D), some (.ref D1), y4, y5, y6, y7, y8, y9, y10] ∧ Ex G1 G ∧ D ≠ p ∧ D ≠ sysModules ∧ G D = some (.lst zs) ∧ DqAll K p G zs (r.map frd) ∧ r.length ≤ qs.length ∧ (r.length = qs.length ∨ j ≤ r.length) ∧ (∀ r', Fall s' (qs.drop r.length) r' → Fall s' qs (r ++ r')))
      ⟨D0, [], [], none, none, none, none, none, none, none, rfl, Ex.refl _, D0p, nm0, ex1 _ _ upd_same, .nil, Nat.zero_le _, .inr (Nat.zero_le _), fun r' f => f⟩ ?_ ?_
    · rintro j σ G hj ⟨D, zs, r, y4, y5, y6, y7, y8, y9, y10, rfl, exG, Dp, Dm, hz, dq, rl, rj, acc⟩
      have zl : zs.length = r.length := by rw [dq.len, List.length_map]
      refine n_name ?_
      dsimp only
      refine n_seq ?_
      refine sl_lo (K := K) (n := zs.length) rfl (ex_t (e1.trans exG) hS) (ev_lenL rfl hz) fun t G2 e2 hS2 => ?_
      rw [zl] at hS2
      refine ⟨by show 3 ≤ sizeLine; decide, fun t3 f3 => ?_⟩
      have x3 := Ex.new (o := .tup [.ref t, .non, .int 0]) f3
      have E3 := (e1.trans exG).trans (e2.trans x3)
      have hz3 := (e2.trans x3) _ _ hz
      have dq3 := DqAll.ex (e2.trans x3) _ _ dq
      have hS3 := ex_t x3 hS2
      have hos3 := (exG.trans (e2.trans x3)) _ _ hos
      have qos3 := DqAll.ex (exG.trans (e2.trans x3)) _ _ qos
      refine ⟨t3, _, rfl, SqT.of upd_same, rfl, _, _, rfl, _, _, rfl, _, _, rfl, rfl, ?_⟩
      have exG3 := exG.trans (e2.trans x3)
      generalize upd G2 t3 (.tup [.ref t, .non, .int 0]) = G3 at E3 hz3 dq3 hS3 hos3 qos3 exG3
      have hA3 : DqAll K p G3 (xs.drop r.length) ((qs.drop r.length).map frd) := by
        rw [List.map_drop]
        exact (DqAll.ex E3 _ _ hA).drop _
      generalize hqs : qs.drop r.length = qs2 at hA3
      have ql : qs2.length = qs.length - r.length := by rw [← hqs, List.length_drop]
      have bq : ∀ q ∈ qs2, Bd 10 q := fun q hq => hb q (List.mem_of_mem_drop (by rw [hqs]; exact hq))
      generalize hxs : xs.drop r.length = xs2 at hS3 hA3
      have xl2 : xs2.length = qs2.length := by rw [hA3.len, List.length_map]
      have WL := wgs_len s' qs2
      generalize hW : wgs s' qs2 = W at WL
      have Wat : ∀ i, i < qs2.length → W[i]? = some (wageQ s' (qs2.take (i + 1))) := fun i hi => by rw [← hW]; exact wgs_at hi
      clear hS2 x3 f3 hz dq e2 exG
      dsimp only
      refine n_seq ?_
      refine ⟨_, rfl, t, xs2, rfl, .inr hS3, _, _, rfl, rfl, 1, _, rfl, ⟨by decide, by decide, by omega, by omega⟩, ?_⟩
      rw [show ((xs2.length : Int) + 1 - 1).toNat = xs2.length by omega]
      refine for_range (lo := 1) (n := xs2.length) (fun i σ G => ∃ (m : V) (l : Int) (y8 y9 : Option V), σ = [some u, some (.ref a), some (.ref D), some (.ref D1), some (.int (0 + (j : Nat))), some (.ref t), some m, some (.int l), y8, y9, y10] ∧ Ex G3 G ∧ ((i = 0 ∧ m = .non ∧ l = 0) ∨ ∃ (b : Rat) (L : Nat), 1 ≤ i ∧ Fr K 1603 b m G ∧ l = (L : Int) ∧ Top (W.take i) b L))
        ⟨.non, 0, _, _, rfl, Ex.refl _, .inl ⟨rfl, rfl, rfl⟩⟩ ?_ ?_
      · rintro i σ G hi ⟨m, l, y8, y9, rfl, ex, hm⟩
        refine n_name ?_
        dsimp only
        refine n_seq ?_
        have v8 : some (some (V.int (1 + (i : Int)))) = some (some (V.int ((i + 1 : Nat) : Int))) := by rw [show (1 + (i : Int)) = ((i + 1 : Nat) : Int) by omega]
        refine ⟨u, rfl, ?_⟩
        refine sl_hi (K := K) (n := i + 1) (b := t) rfl (ex_t ex hS3) (ev_var v8) fun t4 G4 e4 hS4 => ?_
        have E4 := ex.trans e4
        have hA4 : DqAll K p G4 (xs2.take (i + 1)) ((qs2.take (i + 1)).map frd) := by
          rw [List.map_take]
          exact (DqAll.ex E4 _ _ hA3).cut _
        have l4 : (qs2.take (i + 1)).length = i + 1 := by rw [List.length_take]; omega
        refine ⟨p, t4, u, _, s', qs2.take (i + 1), rfl, fs.ex (E3.trans E4), .inl hS4, hA4, fun q hq => bq q (List.mem_of_mem_take hq), by omega, fun z1 G5 e5 f5 => ?_⟩
        have hos5 := (E4.trans e5) _ _ hos3
        refine ⟨u, rfl, _, rfl, _, rfl, _, rfl, D1, os, rfl, SqL.of hos5, fun l6 f6 => ?_⟩
        have x6 := Ex.new (o := .lst (cutV os none (some (1 + (i : Int))))) f6
        have cc : cutV os none (some (1 + (i : Int))) = os.take (i + 1) := by
          rw [show (1 + (i : Int)) = ((i + 1 : Nat) : Int) by omega]
          exact cut_hi os (i + 1)
        have ro : (List.replicate xs.length (1 : Rat)).take (i + 1) = (qs2.take (i + 1)).map fun _ => 1 := by
          rw [List.take_replicate, Nat.min_eq_left (by omega)]
          have := (List.map_const' (l := qs2.take (i + 1)) (b := (1 : Rat))).symm
          rw [l4] at this
          exact this
        have ho6 : DqAll K p (upd G5 l6 (.lst (cutV os none (some (1 + (i : Int)))))) (cutV os none (some (1 + (i : Int)))) (((qs2.take (i + 1)).map fun _ => (1 : Rat)).map frd) := by
          rw [cc, ← ro, List.map_take]
          rw [cc] at x6
          exact (DqAll.ex ((E4.trans e5).trans x6) _ _ qos3).cut _
        refine ⟨p, l6, u, _, s', (qs2.take (i + 1)).map fun _ => 1, rfl, fs.ex ((E3.trans E4).trans (e5.trans x6)), .inr upd_same, ho6, fun q hq => ?_, by rw [List.length_map]; omega, fun z2 G7 e7 f7 => ?_⟩
        · obtain ⟨_, _, rfl⟩ := List.mem_map.mp hq
          exact ⟨by decide, by decide⟩
        have pos : 0 < paidQ s' ((qs2.take (i + 1)).map fun _ => 1) := (ones_pos s0 _).2 fun z => by
          rw [z] at l4
          cases l4
        refine ⟨z1, z2, 801, 801, _, _, rfl, f5.ex (x6.trans e7), f7, by decide, pos, fun z G8 e8 f8 => ?_⟩
        have E8 := ((E4.trans e5).trans (x6.trans e7)).trans e8
        have ti : W.take (i + 1) = W.take i ++ [wageQ s' (qs2.take (i + 1))] := by
          rw [List.take_succ, Wat i (by omega)]
          rfl
        have wl : (W.take i).length = i := by rw [List.length_take]; omega
        have f8' : Fr K 1603 (wageQ s' (qs2.take (i + 1))) z G8 := f8
        generalize wageQ s' (qs2.take (i + 1)) = w at ti f8'
        clear f8 f7 f5 ho6 pos Wat
        dsimp only
        have upd2 : ∀ {G9 : Hp}, Ex G8 G9 → (∀ x ∈ W.take i, x ≤ w) → tAsg (tTup (tCons (tVar 9) (tCons (tVar 8) tNil))) (gTup K 2 (gCons (gName 6) (gCons (gName 7) gNil))) { nx := fun σ G => ∃ (m : V) (l : Int) (y8 y9 : Option V), σ = [some u, some (.ref a), some (.ref D), some (.ref D1), some (.int (0 + (j : Nat))), some (.ref t), some m, some (.int l), y8, y9, y10] ∧ Ex G3 G ∧ ((i + 1 = 0 ∧ m = .non ∧ l = 0) ∨ ∃ (b : Rat) (L : Nat), 1 ≤ i + 1 ∧ Fr K 1603 b m G ∧ l = (L : Int) ∧ Top (W.take (i + 1)) b L), rt := fun _ _ => True } [some u, some (.ref a), some (.ref D), some (.ref D1), some (.int (0 + (j : Nat))), some (.ref t), some m, some (.int l), some (.int (1 + (i : Int))), some z, y10] G9 := fun {G9} e9 hle => by
          refine ⟨_, rfl, _, rfl, by show 2 ≤ sizeLine; decide, fun t5 f5 => ⟨t5, _, rfl, SqT.of upd_same, rfl, _, _, rfl, _, _, rfl, rfl, ?_⟩⟩
          have x5 := Ex.new (o := .tup [z, .int (1 + (i : Int))]) f5
          refine ⟨z, 1 + (i : Int), _, _, rfl, E8.trans (e9.trans x5), .inr ⟨w, i + 1, by omega, f8'.ex (e9.trans x5), by omega, ?_⟩⟩
          rw [ti]
          have := top_new hle
          rwa [wl] at this
        rcases hm with ⟨rfl, rfl, rfl⟩ | ⟨b, L, i1, fm, rfl, top⟩
        · refine (et_or (a := true) (b := true) (et_is (et_test (ev_isN rfl)) (decide_eq_true rfl)) fun z => nomatch z) G8 (Ex.refl _) _ fun G9 e9 => ?_
          refine iteT ?_
          refine upd2 e9 fun x hx => ?_
          rw [List.take_zero] at hx
          cases hx
        · have fm8 := fm.ex (((e4.trans e5).trans (x6.trans e7)).trans e8)
          have cmp : Ev (tCall (spLt K) [] E0 (tCons (tVar 9) (tCons (tVar 6) tNil))) [some u, some (.ref a), some (.ref D), some (.ref D1), some (.int (0 + (j : Nat))), some (.ref t), some m, some (.int (L : Int)), some (.int (1 + (i : Int))), some z, y10] G8 (.bl (decide (w < b))) := fun H1 e1 Q' k' =>
            ⟨_, rfl, _, rfl, z, m, 1603, 1603, _, _, rfl, f8'.ex e1, fm8.ex e1, by decide, fun H2 e2 => k' H2 e2⟩
          have mn : m ≠ V.non := by
            obtain ⟨c, rfl, _⟩ := fm
            intro z
            cases z
          refine (et_or (a := false) (b := !decide (w < b)) (et_is (et_test (ev_isN rfl)) (decide_eq_false mn)) fun _ => et_not (et_B cmp)) G8 (Ex.refl _) _ fun G9 e9 => ?_
          by_cases c : w < b
          · rw [decide_eq_true c]
            refine iteF ?_
            refine n_next ?_
            refine ⟨m, (L : Int), _, _, rfl, E8.trans e9, .inr ⟨b, L, by omega, fm8.ex e9, rfl, ?_⟩⟩
            rw [ti]
            exact top_keep top c
          · rw [decide_eq_false c]
            refine iteT ?_
            refine upd2 e9 fun x hx => ?_
            obtain ⟨n, hn, e⟩ := List.getElem_of_mem hx
            have := top.most n x (by rw [List.getElem?_eq_getElem hn, e])
            grind
      · rintro σ G ⟨m, l, y8, y9, rfl, ex, hm⟩
        have hz4 := ex _ _ hz3
        have E4 := exG3.trans ex
        have L0 : ∃ L : Nat, l = (L : Int) ∧ L ≤ xs2.length := by
          rcases hm with ⟨h1, h2, h3⟩ | ⟨b, L, h1, h2, h3, h4⟩
          · exact ⟨0, h3, Nat.zero_le _⟩
          · have := h4.le
            rw [List.length_take] at this
            exact ⟨L, h3, by omega⟩
        obtain ⟨L, rfl, hL⟩ := L0
        refine ⟨_, rfl, _, rfl, (L : Int), rfl, by omega, by omega, fun D4 nD4 => ?_⟩
        refine lc_range (lo := 0) (n := L) (fun i G' => Ex G G' ∧ G' D4 = some (.lst (List.replicate i m))) ⟨Ex.new nD4, upd_same⟩ ?_ ?_
        · rintro i G' hi ⟨ex', h4⟩
          refine ⟨rfl, ?_⟩
          refine yes_of ?_
          rw [if_pos rfl]
          refine ⟨m, rfl, _, h4, small1000 (by rw [List.length_replicate]; omega), Ex.mut ex' nD4, ?_⟩
          rw [upd_same, List.replicate_succ']
        rintro G5 ⟨ex5, h5⟩
        have hz5 := ex5 _ _ hz4
        refine ⟨D, D4, zs, _, rfl, rfl, hz5, h5, Nat.le_of_lt (small1000 (by rw [List.length_replicate]; omega)), fun D6 nD6 nm6 => ?_⟩
        have x6 := Ex.new (o := .lst (zs ++ List.replicate L m)) nD6
        have D6p : D6 ≠ p := (ne_of_none ((e1.trans (E4.trans ex5)) _ _ hxp) nD6).symm
        have dq6 := DqAll.ex ((ex.trans ex5).trans x6) _ _ dq3
        rcases hm with ⟨h1, h2, h3⟩ | ⟨b, L', h1, fm, h3, top⟩
        · have L00 : L = 0 := by omega
          subst L00
          refine ⟨D6, zs, r, _, _, _, _, _, _, _, rfl, (E4.trans ex5).trans x6, D6p, nm6, ?_, dq6, rl, .inl (by omega), acc⟩
          rw [upd_same, List.replicate_zero, List.append_nil]
        · obtain rfl : L = L' := by omega
          rw [List.take_of_length_le (by omega), ← hW] at top
          refine ⟨D6, zs ++ List.replicate L m, r ++ List.replicate L b, _, _, _, _, _, _, _, rfl, (E4.trans ex5).trans x6, D6p, nm6, upd_same, ?_, ?_, ?_, ?_⟩
          · rw [List.map_append, List.map_replicate]
            exact dq6.append (DqAll.rep _ (fm.ex (ex5.trans x6)).dq)
          · rw [List.length_append, List.length_replicate]
            omega
          · have := top.one
            rw [List.length_append, List.length_replicate]
            omega
          · intro r' f'
            rw [List.append_assoc]
            refine acc _ ?_
            rw [hqs]
            refine .step top ?_
            rw [List.length_append, List.length_replicate, ← List.drop_drop, hqs] at f'
            exact f'
    · rintro σ G ⟨D, zs, r, y4, y5, y6, y7, y8, y9, y10, rfl, exG, Dp, Dm, hz, dq, rl, rj, acc⟩
      refine ⟨_, rfl, k D zs r G (e1.trans exG) Dp Dm hz dq ?_⟩
      have := acc [] (by rw [List.drop_of_length_le (by omega)]; exact .nil)
      rwa [List.append_nil] at this
end
/-! ### values put together of data -/
section
variable {K : PySem.W.Frag} {p a : Addr} {σ : L2.St} {H H' : Hp} {N : Nat} {te ta tb : TE} {v : V} {d : PyData} {ds es : List PyData}
mutual
theorem Dq.exb {K : PySem.W.Frag} {p : Addr} {H H' : Hp} {xs : List V} (hp : H p = some (.lst xs)) (e : ExB p H H') : ∀ (d : PyData) (v : V), Dq K p H v d → Dq K p H' v d
  | _, _, .non => .non
  | _, _, .bl b => .bl b
  | _, _, .int i => .int i
  | _, _, .str x => .str x
  | _, _, .lst n m h hs => .lst n m (e _ _ n h) (DqAll.exb hp e _ _ hs)
  | _, _, .tup h hs => .tup (tup_lst hp e h) (DqAll.exb hp e _ _ hs)
  | _, _, .emp h => .emp (e _ _ (by rintro rfl; rw [hp] at h; cases h) h)
theorem DqAll.exb {K : PySem.W.Frag} {p : Addr} {H H' : Hp} {xs : List V} (hp : H p = some (.lst xs)) (e : ExB p H H') : ∀ (ds : List PyData) (vs : List V), DqAll K p H vs ds → DqAll K p H' vs ds
  | _, _, .nil => .nil
  | _, _, .cons h hs => .cons (Dq.exb hp e _ _ h) (DqAll.exb hp e _ _ hs)
end
end
section
variable {K : PySem.W.Frag} {p a : Addr} {σ : L2.St} {H H' : Hp} {N : Nat} {te ta tb : TE} {v : V} {d : PyData} {ds es : List PyData}
/-- one of some data -/
theorem rd_pickN {E : XK} {tm : TA} {Q : VK} (hm : EvDs K p tm σ H ds) (hp : Pen H p a N) (h0 : σ[0]? = some (some (.ref p))) (l0 : 0 < ds.length) (l1 : ds.length ≤ 900) (hN : N ≤ 980)
    (k : ∀ v d H', d ∈ ds → ExB p H H' → Pen H' p a (N + 1) → Dq K p H' v d → Q v H') : tCall (spOne K) [] E (tCons (tVar 0) (tCons (tLstN tm) tNil)) σ H Q := by
  refine ⟨_, h0, ?_⟩
  refine hm H (Ex.refl H) _ fun vs H1 e1 qs => ?_
  have vl := qs.len
  refine ⟨Nat.le_of_lt (small1000 (by omega)), fun l fl _ => ?_⟩
  have x1 := Ex.new (o := .lst vs) fl
  obtain ⟨xp, hxp⟩ := (hp.ex e1).hasP
  have nlp : l ≠ p := (ne_of_none hxp fl).symm
  refine ⟨p, a, l, vs, N, rfl, hp.ex (e1.trans x1), upd_same, nlp, by omega, by omega, by omega, fun x H2 hx eb hp2 => ?_⟩
  obtain ⟨d, hd, qd⟩ := (DqAll.ex x1 _ _ qs).mem x hx
  exact k x d H2 hd ((Ex.b (e1.trans x1)).trans eb) hp2 (Dq.exb (x1 _ _ hxp) eb _ _ qd)
theorem ed_catA (h : EvD K p ta σ H (.tuple ds)) (g : EvD K p tb σ H (.tuple es)) (hl : ds.length + es.length ≤ 1000) : EvD K p (tOp (rCatA K) ta tb) σ H (.tuple (ds ++ es)) := fun H1 e1 Q k =>
  h H1 e1 _ fun x H2 e2 q => g H2 (e1.trans e2) _ fun y H3 e3 r => by
    obtain ⟨a, xs, rfl, hS, hA⟩ := (Dq.ex e3 _ _ q).seq
    obtain ⟨b, ys, rfl, hT, hB⟩ := r.seq
    have xl := hA.len
    have yl := hB.len
    have e23 := e2.trans e3
    refine ⟨a, b, xs, ys, rfl, rfl, hS, hT, Nat.le_of_lt (small1000 (by omega)), fun z => ?_, fun _ z => ?_, fun _ _ t ft => ?_⟩
    · subst z
      cases hA
      exact k _ _ e23 (.tup hT hB)
    · subst z
      cases hB
      refine k (.ref a) H3 e23 ?_
      rw [List.append_nil]
      exact .tup hS hA
    · have x1 := Ex.new (o := .tup (xs ++ ys)) ft
      exact k _ _ (e23.trans x1) (.tup (SqT.of upd_same) ((DqAll.ex x1 _ _ hA).append (DqAll.ex x1 _ _ hB)))
theorem ed_slHi {i n : Nat} {tn : TE} (hv : σ[i]? = some (some v)) (hd : Dq K p H v (.tuple ds)) (hn : Ev tn σ H (.int (n : Int))) : EvD K p (tSl (rSlA K) (tVar i) tNoPart (tPart tn)) σ H (.tuple (ds.take n)) := fun H1 e1 Q k => by
  obtain ⟨b, xs, rfl, hS, hA⟩ := (Dq.ex e1 _ _ hd).seq
  exact sl_hi (K := K) (n := n) hv hS (fun H2 e2 Q2 k2 => hn H2 (e1.trans e2) Q2 k2) fun u H2 e2 h => k _ H2 e2 (.tup h ((DqAll.ex e2 _ _ hA).cut n))
theorem ed_slLo {i n : Nat} {tn : TE} (hv : σ[i]? = some (some v)) (hd : Dq K p H v (.tuple ds)) (hn : Ev tn σ H (.int (n : Int))) : EvD K p (tSl (rSlA K) (tVar i) (tPart tn) tNoPart) σ H (.tuple (ds.drop n)) := fun H1 e1 Q k => by
  obtain ⟨b, xs, rfl, hS, hA⟩ := (Dq.ex e1 _ _ hd).seq
  exact sl_lo (K := K) (n := n) hv hS (fun H2 e2 Q2 k2 => hn H2 (e1.trans e2) Q2 k2) fun u H2 e2 h => k _ H2 e2 (.tup h ((DqAll.ex e2 _ _ hA).drop n))
theorem ed_lsN {o : HO} {i : Nat} (hh : H p = some o) (hv : σ[i]? = some (some v)) (hd : Dq K p H v (.tuple ds)) : EvD K p (tCB (rListN K) (tCons (tVar i) tNil)) σ H (.list ds) := fun H1 e Q k => by
  obtain ⟨b, xs, rfl, hS, hA⟩ := (Dq.ex e _ _ hd).seq
  refine ⟨_, hv, b, xs, rfl, .inr hS, fun l hl hm => ?_⟩
  have x1 := Ex.new (o := .lst xs) hl
  exact k _ _ x1 (.lst (ne_of_none (e _ _ hh) hl).symm hm upd_same (DqAll.ex x1 _ _ hA))
theorem DqAll.reps : ∀ (n : Nat) {xs : List V} {ds : List PyData}, DqAll K p H xs ds → DqAll K p H (List.replicate n xs).flatten (List.replicate n ds).flatten
  | 0, _, _, _ => .nil
  | n + 1, _, _, h => by
    rw [List.replicate_succ, List.replicate_succ, List.flatten_cons, List.flatten_cons]
    exact h.append (DqAll.reps n h)
theorem ed_repN {n : Nat} (h : EvD K p te σ H (.tuple ds)) (n0 : ds ≠ []) (n2 : 2 ≤ n) (n9 : n ≤ 1000) (hl : ds.length ≤ 1000) : EvD K p (tOp (rRepT K) te (tC (.int (n : Nat)))) σ H (.tuple (List.replicate n ds).flatten) := fun H1 e1 Q k =>
  h H1 e1 _ fun x H2 e2 q => by
    obtain ⟨a, xs, rfl, hS, hA⟩ := q.seq
    have xl := hA.len
    refine ⟨a, _, xs, rfl, rfl, hS, fun z => ?_, by omega, by omega, by omega, fun t ft => ?_⟩
    · subst z
      cases hA
      exact n0 rfl
    · have x1 := Ex.new (o := .tup (List.replicate (n : Int).toNat xs).flatten) ft
      exact k _ _ (e2.trans x1) (.tup (SqT.of upd_same) (DqAll.ex x1 _ _ (hA.reps n)))
end
theorem rep_len (n : Nat) (ds : List PyData) : (List.replicate n ds).flatten.length = n * ds.length := by
  induction n with
  | zero => simp
  | succ n ih => rw [List.replicate_succ, List.flatten_cons, List.length_append, ih, Nat.succ_mul, Nat.add_comm]
theorem nca_of {c e : Nat} : ∀ {ds : List PyData}, (∀ d ∈ ds, Nc c e d) → NcA (ds.length * (c + 2)) e ds
  | [], _ => by simpa using nca_nil
  | d :: ds, h => by
    have h1 := nca_cons (h d List.mem_cons_self) (nca_of fun x hx => h x (List.mem_cons_of_mem _ hx))
    refine ⟨h1.sh, h1.dp, ?_⟩
    have := h1.co
    rw [List.length_cons, Nat.succ_mul]
    omega
theorem nc_f10 {q : Rat} (h : Bd 10 q) : Nc 100 3 (frd q) := (nc_pair h.1 (bd_den h) (by decide) (by decide)).mono (by decide) (by decide)
/-- what is no day's pay -/
def dOdd : List PyData := [.int 1, .none, .tuple [.int 2, .int 2], .tuple [.int 1, .int 0], .tuple [.int 1, .int (-1)], .list [.int 1, .int 1], .tuple [.bool true, .int 1], .tuple [.int 1, .int 1, .int 1], .str "1", .tuple [.int 1]]
theorem odd_no : ∀ d ∈ dOdd, frB d = false := by decide +kernel
theorem nc_i1 : Nc 100 0 (.int 1) := (nc_int (b := 8) (by decide) (by decide) (by decide)).mono (by decide) (Nat.le_refl _)
theorem nc_ii (n m : Int) (hn : n.natAbs < 2 ^ 8) (hm : m.natAbs < 2 ^ 8) : Nc 100 3 (.tuple [.int n, .int m]) := (nc_pair hn hm (by decide) (by decide)).mono (by decide) (by decide)
theorem nc_iI (n : Int) (hn : n.natAbs < 2 ^ 8) : Nc 10 0 (.int n) := nc_int hn (by decide) (by decide)
theorem odd_nc : ∀ d ∈ dOdd, Nc 100 3 d := by
  have i1 : Nc 10 0 (.int 1) := nc_iI 1 (by decide)
  refine List.forall_mem_cons.mpr ⟨i1.mono (by decide) (by decide), List.forall_mem_cons.mpr ⟨nc_none.mono (by decide) (by decide), List.forall_mem_cons.mpr ⟨nc_ii 2 2 (by decide) (by decide), List.forall_mem_cons.mpr ⟨nc_ii 1 0 (by decide) (by decide), List.forall_mem_cons.mpr ⟨nc_ii 1 (-1) (by decide) (by decide), List.forall_mem_cons.mpr ⟨?_, List.forall_mem_cons.mpr ⟨?_, List.forall_mem_cons.mpr ⟨?_, List.forall_mem_cons.mpr ⟨?_, List.forall_mem_cons.mpr ⟨?_, fun _ z => nomatch z⟩⟩⟩⟩⟩⟩⟩⟩⟩⟩
  · exact (nc_lst (nca_cons i1 (nca_cons i1 nca_nil))).mono (by decide) (by decide)
  · exact (nc_tup (nca_cons ((nc_bool true).mono (Nat.le_refl _) (Nat.le_refl _)) (nca_cons i1 nca_nil))).mono (by decide) (by decide)
  · exact (nc_tup (nca_cons i1 (nca_cons i1 (nca_cons i1 nca_nil)))).mono (by decide) (by decide)
  · exact (nc_str (x := "1") (c := 5) (by decide +kernel)).mono (by decide) (by decide)
  · exact (nc_tup (nca_cons i1 nca_nil)).mono (by decide) (by decide)
/-! ### projects that are bent -/
section
variable {P : Program} {w : World} {K : PySem.W.Frag} {mg : Str → Option Value} {base : Heap}
def spBent (K : PySem.W.Frag) : Sp := fun vs H Q _ => ∃ (p a : Addr) (v : V) (qs : List Rat) (N : Nat), vs = [.ref p, v] ∧ Pen H p a N ∧ N ≤ 900 ∧ Dq K p H v (.tuple (qs.map frd)) ∧ (∀ q ∈ qs, Bd 10 q) ∧ 1 ≤ qs.length ∧ qs.length ≤ 8 ∧
  ∀ (x : V) (d : PyData) (H' : Hp), ExB p H H' → Pen H' p a (N + 3) → Dq K p H' x d → projB d = false → Nc 10000 10 d → Q x H'
theorem ok__law_bent (T : Txt K mg) : FnOk P w K mg base CX0 4 T.d__law_bent.a T.d__law_bent.fd ["_law_pen", "_law_some"] (spBent K) := by
  refine T.d__law_bent.F.ok sc__law_bent (fun vs H Q E h => ?_) (fun cdv A outer s H vs Q E hr h => ?_)
  · obtain ⟨p, a, v, qs, N, rfl, _⟩ := h
    rfl
  · obtain ⟨p, a, v, qs, N, rfl, hp, hN, hv, hb, l1, l8, k⟩ := h
    refine ⟨_, (pss_cons (ps_set (i := 2) sc__law_bent.nd rfl (Or.inl rfl) (pe_call (ok__law_take T) (hr.mono (by decide)) (by rfl) T.d__law_take.g T.d__law_take.F.kp T.d__law_take.b .nil pass0 (pa_cons (pv 0) (pa_cons (pe_callB call_len_seq (by rfl) T.n_len (by decide +kernel) (pa_cons (pv 1) pa_nil)) pa_nil))))
      (pss_cons (ps_set (i := 3) sc__law_bent.nd rfl (Or.inl rfl) (pe_call (ok__law_one T) (hr.mono (by decide)) (by rfl) T.d__law_one.g T.d__law_one.F.kp T.d__law_one.b .nil pass0 (pa_cons (pv 0) (pa_cons (pe_lstN (pa_cons pe_int (pa_cons pe_non (pa_cons (pe_tup (pa_cons pe_int (pa_cons pe_int pa_nil))) (pa_cons (pe_tup (pa_cons pe_int (pa_cons pe_int pa_nil))) (pa_cons (pe_tup (pa_cons pe_int (pa_cons (pe_un un_neg pe_int) pa_nil))) (pa_cons (pe_lstN (pa_cons pe_int (pa_cons pe_int pa_nil))) (pa_cons (pe_tup (pa_cons pe_bl (pa_cons pe_int pa_nil))) (pa_cons (pe_tup (pa_cons pe_int (pa_cons pe_int (pa_cons pe_int pa_nil)))) (pa_cons pe_str (pa_cons (pe_tup (pa_cons pe_int pa_nil)) pa_nil))))))))))) pa_nil))))
      (pss_cons (ps_set (i := 4) sc__law_bent.nd rfl (Or.inl rfl) (pe_op op_catA (pe_op op_catA (pe_slice sl_tupA (pv 1) po_none (po_some (pv 2))) (pe_tup (pa_cons (pv 3) pa_nil))) (pe_slice sl_tupA (pv 1) (po_some (pe_op op_add (pv 2) pe_int)) po_none)))
      (pss_one (ps_ret (pe_call (ok__law_one T) (hr.mono (by decide)) (by rfl) T.d__law_one.g T.d__law_one.F.kp T.d__law_one.b .nil pass0 (pa_cons (pv 0) (pa_cons (pe_lstN (pa_cons (pv 4) (pa_cons (pe_callTy call_listN (by rfl) T.n_list (by decide +kernel) (pa_cons (pv 1) pa_nil)) (pa_cons (pe_tup pa_nil) (pa_cons pe_non (pa_cons (pe_op op_repT (pv 1) pe_int) (pa_cons (pv 4) pa_nil))))))) pa_nil)))))))), ?_⟩
    obtain ⟨c, xs, rfl, hS, hA⟩ := hv.seq
    have xl : xs.length = qs.length := by rw [hA.len, List.length_map]
    obtain ⟨xp, hxp⟩ := hp.hasP
    refine n_seq ?_
    refine ⟨_, rfl, _, rfl, c, xs, rfl, .inr hS, p, a, _, N, rfl, hp, by omega, by omega, by omega, fun r H1 r0 r1 eb1 hp1 => ?_⟩
    obtain ⟨at_, rfl⟩ : ∃ at_ : Nat, r = at_ := ⟨r.toNat, by omega⟩
    have ha8 : at_ < qs.length := by omega
    have hv1 := Dq.exb hxp eb1 _ _ hv
    dsimp only
    refine n_seq ?_
    obtain ⟨x1, hx1⟩ := hp1.hasP
    refine rd_pickN (K := K) (ds := dOdd) (eds_cons ed_I (eds_cons ed_none (eds_cons (ed_P ed_I ed_I) (eds_cons (ed_P ed_I ed_I) (eds_cons (ed_P ed_I ed_N) (eds_cons (ed_lst hx1 (eds_cons ed_I (eds_cons ed_I eds_nil)) (by show 2 ≤ 1000; decide)) (eds_cons (ed_P ed_bool ed_I) (eds_cons (ed_tup (eds_cons ed_I (eds_cons ed_I (eds_cons ed_I eds_nil))) (by show 3 ≤ 1000; decide)) (eds_cons ed_str (eds_cons (ed_tup (eds_cons ed_I eds_nil) (by show 1 ≤ 1000; decide)) eds_nil)))))))))) hp1 rfl (by decide) (by decide) (by omega) fun y od H2 hod eb2 hp2 qy => ?_
    have hv2 := Dq.exb hx1 eb2 _ _ hv1
    dsimp only
    refine n_seq ?_
    have ql : (qs.map frd).length = qs.length := List.length_map ..
    refine s_asgP (ed_catA (K := K) (p := p) (ed_catA (ed_slHi (n := at_) rfl hv2 (ev_var rfl)) (ed_tup (eds_cons (ed_var rfl qy) eds_nil) (by show 1 ≤ 1000; decide)) (by rw [List.length_take]; show _ + 1 ≤ 1000; omega)) (ed_slLo (n := at_ + 1) rfl hv2 (ev_is (ev_add (ev_var rfl) ev_c) (by show V.int ((at_ : Int) + 1) = _; rfl))) (by rw [List.length_append, List.length_take, List.length_drop]; show _ + 1 + _ ≤ 1000; omega)) fun z H3 e3 qz => ?_
    generalize hbd : (qs.map frd).take at_ ++ [od] ++ (qs.map frd).drop (at_ + 1) = bd at qz
    have hv3 := Dq.ex e3 _ _ hv2
    have hp3 := hp2.ex e3
    dsimp only
    obtain ⟨x3, hx3⟩ := hp3.hasP
    have bno : projB (.tuple bd) = false := by
      show ((_ && _) && bd.all frB) = false
      have : bd.all frB = false := by
        rw [← hbd, List.all_append, List.all_append, List.all_cons, odd_no od hod, Bool.false_and, Bool.and_false, Bool.false_and]
      rw [this, Bool.and_false]
    have bnc : ∀ d ∈ bd, Nc 100 3 d := fun d hd => by
      rw [← hbd] at hd
      have fq : ∀ x ∈ qs.map frd, Nc 100 3 x := fun x hx => by
        obtain ⟨q, hq, rfl⟩ := List.mem_map.mp hx
        exact nc_f10 (hb q hq)
      rcases List.mem_append.mp hd with hd | hd
      · rcases List.mem_append.mp hd with hd | hd
        · exact fq d (List.mem_of_mem_take hd)
        · rw [List.mem_singleton] at hd
          rw [hd]
          exact odd_nc od hod
      · exact fq d (List.mem_of_mem_drop hd)
    have bl : bd.length ≤ 9 := by
      rw [← hbd, List.length_append, List.length_append, List.length_take, List.length_drop]
      show _ + 1 + _ ≤ 9
      omega
    have qn : ∀ d ∈ qs.map frd, Nc 100 3 d := fun x hx => by
      obtain ⟨q, hq, rfl⟩ := List.mem_map.mp hx
      exact nc_f10 (hb q hq)
    have EB := (eb1.trans eb2).trans (Ex.b e3)
    have nca : ∀ {ds : List PyData}, (∀ d ∈ ds, Nc 100 3 d) → ds.length ≤ 90 → NcA 9900 3 ds := fun {ds} h hl => by
      have h1 := nca_of h
      exact ⟨h1.sh, h1.dp, by have := h1.co; omega⟩
    have rl : (List.replicate 9 (qs.map frd)).flatten.length = 9 * qs.length := by
      rw [rep_len, ql]
    refine rd_pickN (K := K) (ds := [.tuple bd, .list (qs.map frd), .tuple [], .none, .tuple (List.replicate 9 (qs.map frd)).flatten, .tuple bd]) (eds_cons (ed_var rfl qz) (eds_cons (ed_lsN hx3 rfl hv3) (eds_cons (ed_tup eds_nil (by decide)) (eds_cons ed_none (eds_cons (ed_repN (n := 9) (ed_var rfl hv3) (fun z => by
      have h := congrArg List.length z
      rw [ql] at h
      exact absurd h (by show qs.length ≠ 0; omega)) (by decide) (by decide) (by omega)) (eds_cons (ed_var rfl qz) eds_nil)))))) hp3 rfl (by show 0 < 6; decide) (by show 6 ≤ 900; decide) (by omega) fun y2 d H4 hd eb4 hp4 q4 => ?_
    refine k y2 d H4 (EB.trans eb4) hp4 q4 ?_ ?_
    · simp only [List.mem_cons, List.not_mem_nil, or_false] at hd
      rcases hd with rfl | rfl | rfl | rfl | rfl | rfl
      · exact bno
      · rfl
      · rfl
      · rfl
      · show ((_ && decide (_ ≤ 8)) && _) = false
        rw [rl, decide_eq_false (p := 9 * qs.length ≤ 8) (by omega), Bool.and_false, Bool.false_and]
      · exact bno
    · simp only [List.mem_cons, List.not_mem_nil, or_false] at hd
      rcases hd with rfl | rfl | rfl | rfl | rfl | rfl
      · exact (nc_tup (nca bnc (by omega))).mono (by omega) (by omega)
      · exact (nc_lst (nca qn (by omega))).mono (by omega) (by omega)
      · exact (nc_tup (nca_nil (e := 0))).mono (by omega) (by omega)
      · exact nc_none.mono (by omega) (by omega)
      · refine (nc_tup (nca (fun d hd => ?_) (by rw [rl]; omega))).mono (by omega) (by omega)
        obtain ⟨l, hl, hd⟩ := List.mem_flatten.mp hd
        rw [List.eq_of_mem_replicate hl] at hd
        exact qn d hd
      · exact (nc_tup (nca bnc (by omega))).mono (by omega) (by omega)
end
/-! ### what is told of a call -/
def tb__law_told (K : PySem.W.Frag) (B Pj : Addr) (Ts : List Addr) : WX → TS := fun W => tAsg (tIf (tTest (tOp rEq (tVar 0) (tC (.int 0)))) (tCallS (spPT K Ts B Pj) (WE W) (tCons (tVar 1) (tCons (tVar 2) tNil))) (tCallS (spFall K Ts B Pj) (WE W) (tCons (tVar 1) (tCons (tVar 2) tNil)))) (gName 3)
def ts__law_told (K : PySem.W.Frag) (B Pj : Addr) (_ : List Addr) : Addr → Value → Option Addr → TS := fun a cls dd => tSeq (tAsg (tIf (tB (tCB (rIsD K a cls dd) (tCons (tVar 4) (tCons (tC (.ref B)) tNil)))) (tLstN (tCons (tC (.str "BadShare")) tNil)) (tLstN tNil)) (gName 5))
  (tSeq (tIfS (tB (tCB (rIsD K a cls dd) (tCons (tVar 4) (tCons (tC (.ref Pj)) tNil)))) (tDrop (tBM K "list" rAppend (tVar 5) (tCons (tC (.str "BadProject")) tNil))) tNext) (tRet (tTup (tCons (tVar 5) (tCons (tXfE K a cls dd "value" (tVar 4)) tNil)))))
section
variable {P : Program} {w : World} {K : PySem.W.Frag} {mg : Str → Option Value} {base : Heap}
def fine (d : PyData) : PyData := .tuple [.str "fine", d]
def wrong (x : Str) (d : PyData) : PyData := .tuple [.list [.str x], d]
def spTold (K : PySem.W.Frag) (Ts : List Addr) : Sp := fun vs H Q _ => ∃ (p : Addr) (c : Int) (u v : V) (d e : PyData) (xp : List V), vs = [.int c, u, v] ∧ H p = some (.lst xp) ∧ Dq K p H u d ∧ Dq K p H v e ∧ TBs Ts H ∧
  ((prpB d = false ∧ ∀ x H', ExT H H' → TBs Ts H' → Dq K p H' x (wrong "BadShare" d) → Q x H') ∨ (prpB d = true ∧ projB e = false ∧ ∀ x H', ExT H H' → TBs Ts H' → Dq K p H' x (wrong "BadProject" e) → Q x H') ∨
  ∃ (s : Rat) (qs : List Rat), prpB d = true ∧ projB e = true ∧ d = frd s ∧ Bd 10 s ∧ e = .tuple (qs.map frd) ∧ (∀ q ∈ qs, Bd 10 q) ∧ ((c = 0 ∧ ∀ x H', ExT H H' → TBs Ts H' → Dq K p H' x (fine (termP d (qs.map frd))) → Q x H') ∨
    (c = 1 ∧ ∀ r x H', ExT H H' → TBs Ts H' → Dq K p H' x (fine (.list (r.map frd))) → Fall s qs r → (∀ q ∈ r, Bd 401 q) → Q x H')))
theorem ok__law_told (T : Txt K mg) (tb_is_project : GxR.TabB base mg T.c_is_project T.P_is_project) : FnOk P w K mg base CX0 7 T.d__law_told.a T.d__law_told.fd ["_law_call", "_law_part", "_law_project_here"] (spTold K [T.P_is_project, T.P_is_yard]) := by
  refine T.d__law_told.F.ok sc__law_told (fun vs H Q E h => ?_) (fun cdv A outer s H vs Q E hr h => ?_)
  · obtain ⟨p, c, u, v, d, e, xp, rfl, _⟩ := h
    rfl
  · obtain ⟨p, c, u, v, d, e, xp, rfl, hxp, hd, he, ht, hc⟩ := h
    refine ⟨_, (pss_cons (ps_set (i := 3) sc__law_told.nd rfl (Or.inl rfl) pe_non)
      (pss_cons (ps_try_as (i := 4) (tb := tb__law_told K T.E_BadShare.C T.E_BadProject.C [T.P_is_project, T.P_is_yard]) (ts := ts__law_told K T.E_BadShare.C T.E_BadProject.C [T.P_is_project, T.P_is_yard]) (Wout := fun _ _ _ _ => False) rfl rfl sc__law_told.nd rfl rfl ⟨by rfl, by decide, .inl T.M.g⟩ takes0 (fun W pn xe tk _ => (pss_one (ps_set (i := 3) sc__law_told.nd rfl (Or.inl rfl) (pe_ifExp (pt_cmpR op_eq (pv 0) pe_int (nomark _)) (pe_callS (ok_project_term T tb_is_project) (hr.mono (by decide)) (by rfl) T.d_project_term.g T.d_project_term.F.kp T.d_project_term.b (fun σ => passAt tk σ) (pa_cons (pv 1) (pa_cons (pv 2) pa_nil))) (pe_callS (ok_falling T tb_is_project) (hr.mono (by decide)) (by rfl) T.d_falling.g T.d_falling.F.kp T.d_falling.b (fun σ => passAt tk σ) (pa_cons (pv 1) (pa_cons (pv 2) pa_nil))))))) (fun a oe cls d pn hz hf => (pss_cons (ps_set (i := 5) sc__law_told.nd rfl (Or.inl rfl) (pe_ifExp (pt_val (pe_callB (call_isD hz hf) (by rfl) T.n_isinstance (by decide +kernel) (pa_cons (pv 4) (pa_cons (pe_glob (v := .ref T.E_BadShare.C) rfl T.E_BadShare.g rfl) pa_nil)))) (pe_lstN (pa_cons pe_str pa_nil)) (pe_lstN pa_nil)))
      (pss_cons (ps_if (pt_val (pe_callB (call_isD hz hf) (by rfl) T.n_isinstance (by decide +kernel) (pa_cons (pv 4) (pa_cons (pe_glob (v := .ref T.E_BadProject.C) rfl T.E_BadProject.g rfl) pa_nil)))) (pss_one (ps_expr (pe_bm PySem.F.plainAttrs_list PySem.F.slot_list_append PySem.F.type_list_append mt_append (pv 5) (pa_cons pe_str pa_nil)))) pss_nil)
      (pss_one (ps_ret (pe_tup (pa_cons (pv 5) (pa_cons (pe_xfE hz hf (pv 4)) pa_nil)))))))))
      (pss_one (ps_ret (pe_tup (pa_cons pe_str (pa_cons (pv 3) pa_nil))))))), ?_⟩
    refine n_seq ?_
    refine n_c ?_
    dsimp only
    refine n_seq ?_
    -- what a suite tells
    have suA : ∀ (G : Hp) (dd a : Addr) (kn : Str) (D : Ends), D.rt = Q → ExT H G → TBs [T.P_is_project, T.P_is_yard] G → G dd = some (.xd (kd kn u)) → (∀ x H', ExT H H' → TBs [T.P_is_project, T.P_is_yard] H' → Dq K p H' x (wrong "BadShare" d) → Q x H') →
        ts__law_told K T.E_BadShare.C T.E_BadProject.C [T.P_is_project, T.P_is_yard] a (.ref T.E_BadShare.C) (some dd) D [some (.int c), some u, some v, some .non, some (.ref a), none] G := fun G dd a kn D hD ex tg hdd kk => by
      refine n_seq ?_
      refine ⟨.ref a, rfl, T.E_BadShare.C, T.E_BadShare.C, dd, _, true, rfl, rfl, T.E_BadShare.x.ec, rfl, hdd, kit_one _, true, rfl, iteT ?_⟩
      refine ⟨by show 1 ≤ sizeLine; decide, fun l fl fm => ?_⟩
      have x1 := Ex.new (o := .lst [.str "BadShare"]) fl
      dsimp only
      refine n_seq ?_
      refine ⟨.ref a, rfl, T.E_BadShare.C, T.E_BadProject.C, dd, _, false, rfl, rfl, T.E_BadShare.x.ec, rfl, x1 _ _ hdd, (T.E_BadShare.x.other T.E_BadProject.x (by decide)), false, rfl, iteF ?_⟩
      refine n_next ?_
      dsimp only
      refine ⟨.ref l, rfl, .ref a, rfl, rfl, T.E_BadShare.C, dd, _, u, rfl, T.E_BadShare.x.xf, T.E_BadShare.x.noV, rfl, x1 _ _ hdd, rfl, by show 2 ≤ sizeLine; decide, fun t ft => ?_⟩
      have x2 := Ex.new (o := .tup [.ref l, u]) ft
      have X := ex.trans (Ex.t (x1.trans x2))
      show D.rt _ _
      rw [hD]
      exact kk _ _ X (tg.ex (x1.trans x2)) (.tup (SqT.of upd_same) (.cons (.lst (ne_of_none (ex.l hxp) fl).symm fm (x2 _ _ upd_same) (.cons (.str _) .nil)) (.cons (Dq.xt X _ _ hd) .nil)))
    have suB : ∀ (G : Hp) (dd a : Addr) (kn : Str) (D : Ends), D.rt = Q → ExT H G → TBs [T.P_is_project, T.P_is_yard] G → G dd = some (.xd (kd kn v)) → (∀ x H', ExT H H' → TBs [T.P_is_project, T.P_is_yard] H' → Dq K p H' x (wrong "BadProject" e) → Q x H') →
        ts__law_told K T.E_BadShare.C T.E_BadProject.C [T.P_is_project, T.P_is_yard] a (.ref T.E_BadProject.C) (some dd) D [some (.int c), some u, some v, some .non, some (.ref a), none] G := fun G dd a kn D hD ex tg hdd kk => by
      refine n_seq ?_
      refine ⟨.ref a, rfl, T.E_BadProject.C, T.E_BadShare.C, dd, _, false, rfl, rfl, T.E_BadProject.x.ec, rfl, hdd, (T.E_BadProject.x.other T.E_BadShare.x (by decide)), false, rfl, iteF ?_⟩
      refine ⟨by show 0 ≤ sizeLine; decide, fun l fl fm => ?_⟩
      have x1 := Ex.new (o := .lst []) fl
      dsimp only
      refine n_seq ?_
      refine ⟨.ref a, rfl, T.E_BadProject.C, T.E_BadProject.C, dd, _, true, rfl, rfl, T.E_BadProject.x.ec, rfl, x1 _ _ hdd, kit_one _, true, rfl, iteT ?_⟩
      refine ⟨.ref l, rfl, .inl ⟨rfl, _, SqL.of upd_same⟩, l, [], .str "BadProject", rfl, rfl, upd_same, by show 0 < sizeLine; decide, ?_⟩
      have x2 : Ex G (upd (upd G l (.lst [])) l (.lst ([] ++ [.str "BadProject"]))) := Ex.mut x1 fl
      dsimp only
      refine ⟨.ref l, rfl, .ref a, rfl, rfl, T.E_BadProject.C, dd, _, v, rfl, T.E_BadProject.x.xf, T.E_BadProject.x.noV, rfl, x2 _ _ hdd, rfl, by show 2 ≤ sizeLine; decide, fun t ft => ?_⟩
      have x3 := Ex.new (o := .tup [.ref l, v]) ft
      have X := ex.trans (Ex.t (x2.trans x3))
      show D.rt _ _
      rw [hD]
      exact kk _ _ X (tg.ex (x2.trans x3)) (.tup (SqT.of upd_same) (.cons (.lst (ne_of_none (ex.l hxp) fl).symm fm (x3 _ _ upd_same) (.cons (.str _) .nil)) (.cons (Dq.xt X _ _ he) .nil)))
    refine ⟨.int c, rfl, rfl, _, rfl, ?_⟩
    rcases hc with ⟨h1, k1⟩ | ⟨h1, h2, k2⟩ | ⟨s', qs, h1, h2, rfl, bs, rfl, bq, hk⟩
    · refine ite2 (fun _ => ?_) (fun _ => ?_)
      · refine ⟨u, rfl, v, rfl, p, u, v, d, e, rfl, hd, he, ht, .inl ⟨h1, ?_⟩⟩
        intro dd kn H' ex hdd
        exact ⟨true, T.E_BadShare.x.exm, fun _ a ha => suA H' dd a kn _ rfl (Ex.t ex) (ht.ex ex) hdd k1, fun z => nomatch z⟩
      · refine ⟨u, rfl, v, rfl, p, u, v, d, e, rfl, hd, he, ht, .inl ⟨h1, ?_⟩⟩
        intro dd kn H' ex hdd
        exact ⟨true, T.E_BadShare.x.exm, fun _ a ha => suA H' dd a kn _ rfl (Ex.t ex) (ht.ex ex) hdd k1, fun z => nomatch z⟩
    · refine ite2 (fun _ => ?_) (fun _ => ?_)
      · refine ⟨u, rfl, v, rfl, p, u, v, d, e, rfl, hd, he, ht, .inr (.inl ⟨h1, h2, fun H1 e1 t1 => ?_⟩)⟩
        intro dd kn H' ex hdd
        exact ⟨true, T.E_BadProject.x.exm, fun _ a ha => suB H' dd a kn _ rfl (e1.trans (Ex.t ex)) (t1.ex ex) hdd k2, fun z => nomatch z⟩
      · refine ⟨u, rfl, v, rfl, p, u, v, d, e, rfl, hd, he, ht, .inr (.inl ⟨h1, h2, fun H1 e1 t1 => ?_⟩)⟩
        intro dd kn H' ex hdd
        exact ⟨true, T.E_BadProject.x.exm, fun _ a ha => suB H' dd a kn _ rfl (e1.trans (Ex.t ex)) (t1.ex ex) hdd k2, fun z => nomatch z⟩
    · rcases hk with ⟨rfl, k1⟩ | ⟨rfl, k1⟩
      · refine iteT ?_
        refine ⟨u, rfl, v, rfl, p, u, v, frd s', .tuple (qs.map frd), rfl, hd, he, ht, .inr (.inr ⟨h1, h2, fun qs' eq x H1 e1 t1 qx => ?_⟩)⟩
        cases eq
        dsimp only
        refine (ed_tup (K := K) (p := p) (eds_cons ed_str (eds_cons (ed_var rfl qx) eds_nil)) (by show 2 ≤ 1000; decide)) H1 (Ex.refl _) _ fun y H2 e2 qy => ?_
        exact k1 y H2 (e1.trans (Ex.t e2)) (t1.ex e2) qy
      · refine iteF ?_
        refine ⟨u, rfl, v, rfl, p, u, v, frd s', .tuple (qs.map frd), rfl, hd, he, ht, .inr (.inr ⟨s', qs, h1, h2, rfl, bs, rfl, bq, fun l zs r H1 e1 t1 nl nm hl ql hf hb => ?_⟩)⟩
        have qx : Dq K p H1 (.ref l) (.list (r.map frd)) := .lst (nl p xp hxp).symm nm hl ql
        dsimp only
        refine (ed_tup (K := K) (p := p) (eds_cons ed_str (eds_cons (ed_var rfl qx) eds_nil)) (by show 2 ≤ 1000; decide)) H1 (Ex.refl _) _ fun y H2 e2 qy => ?_
        exact k1 r y H2 (e1.trans (Ex.t e2)) (t1.ex e2) qy hf hb
end
/-! ### what is evaluated while it is drawn -/
def ExBT (p : Addr) (H H' : Hp) : Prop := ∀ b o, b ≠ p → (∀ ps, o ≠ HO.tbl ps) → H b = some o → H' b = some o
theorem ExBT.refl (p : Addr) (H : Hp) : ExBT p H H := fun _ _ _ _ h => h
theorem ExBT.trans {p : Addr} {H H1 H2 : Hp} (a : ExBT p H H1) (b : ExBT p H1 H2) : ExBT p H H2 := fun c o n m h => b c o n m (a c o n m h)
theorem ExB.bt {p : Addr} {H H' : Hp} (e : ExB p H H') : ExBT p H H' := fun b o n _ h => e b o n h
theorem ExT.bt {p : Addr} {H H' : Hp} (e : ExT H H') : ExBT p H H' := fun b o _ m h => e b o m h
theorem Ex.bt {p : Addr} {H H' : Hp} (e : Ex H H') : ExBT p H H' := fun b o _ _ h => e b o h
theorem ExBT.st {K : PySem.W.Frag} {p c : Addr} {H H' : Hp} {xs ys : List V} (hp : H p = some (.lst xs)) (e : ExBT p H H') (h : SqT K H c ys) : SqT K H' c ys := by
  rcases h with (h | ⟨o, h⟩) | h
  · exact .inl (.inl (e c _ (by rintro rfl; rw [hp] at h; cases h) (fun _ z => nomatch z) h))
  · exact .inl (.inr ⟨o, e c _ (by rintro rfl; rw [hp] at h; cases h) (fun _ z => nomatch z) h⟩)
  · exact .inr h
theorem ExBT.l {p a : Addr} {H H' : Hp} {xs : List V} (e : ExBT p H H') (n : a ≠ p) (h : H a = some (.lst xs)) : H' a = some (.lst xs) := e a _ n (fun _ z => nomatch z) h
theorem ExBT.k {p a : Addr} {H H' : Hp} {xs : List V} {kvs : List (Key × V)} (hp : H p = some (.lst xs)) (e : ExBT p H H') (h : H a = some (.dK kvs)) : H' a = some (.dK kvs) := e a _ (by rintro rfl; rw [hp] at h; cases h) (fun _ z => nomatch z) h
mutual
theorem Dq.bt {K : PySem.W.Frag} {p : Addr} {H H' : Hp} {xs : List V} (hp : H p = some (.lst xs)) (e : ExBT p H H') : ∀ (d : PyData) (v : V), Dq K p H v d → Dq K p H' v d
  | _, _, .non => .non
  | _, _, .bl b => .bl b
  | _, _, .int i => .int i
  | _, _, .str x => .str x
  | _, _, .lst n m h hs => .lst n m (ExBT.l e n h) (DqAll.bt hp e _ _ hs)
  | _, _, .tup h hs => .tup (ExBT.st hp e h) (DqAll.bt hp e _ _ hs)
  | _, _, .emp h => .emp (ExBT.k hp e h)
theorem DqAll.bt {K : PySem.W.Frag} {p : Addr} {H H' : Hp} {xs : List V} (hp : H p = some (.lst xs)) (e : ExBT p H H') : ∀ (ds : List PyData) (vs : List V), DqAll K p H vs ds → DqAll K p H' vs ds
  | _, _, .nil => .nil
  | _, _, .cons h hs => .cons (Dq.bt hp e _ _ h) (DqAll.bt hp e _ _ hs)
end
theorem Pen.xt {H H' : Hp} {p a : Addr} {N : Nat} (e : ExT H H') (h : Pen H p a N) : Pen H' p a N := by
  obtain ⟨cs, t, v, h1, h2, r⟩ := h
  exact ⟨cs, t, v, e.l h1, e.l h2, r⟩
/-- what stays while the pen draws -/
structure Stay (p : Addr) (I : Hp → Prop) : Prop where
  go : ∀ H H', I H → (∃ xs, H p = some (.lst xs)) → ExB p H H' → I H'
def EvB (K : PySem.W.Frag) (p a : Addr) (I : Hp → Prop) (te : TE) (σ : L2.St) (n : Nat) (R : PyData → Prop) : Prop := ∀ (H : Hp) (N : Nat), I H → Pen H p a N → N + n ≤ 850 → ∀ Q : VK, (∀ v d H', ExB p H H' → I H' → Pen H' p a (N + n) → Dq K p H' v d → R d → Q v H') → te σ H Q
def EvBs (K : PySem.W.Frag) (p a : Addr) (I : Hp → Prop) (ta : TA) (σ : L2.St) (n : Nat) (R : List PyData → Prop) : Prop := ∀ (H : Hp) (N : Nat), I H → Pen H p a N → N + n ≤ 850 → ∀ Q : List V → Hp → Prop, (∀ vs ds H', ExB p H H' → I H' → Pen H' p a (N + n) → DqAll K p H' vs ds → R ds → Q vs H') → ta σ H Q
section
variable {K : PySem.W.Frag} {p a : Addr} {I : Hp → Prop} {σ : L2.St} {te : TE} {ta tr : TA} {n m : Nat} {R R' : PyData → Prop} {Rs : List PyData → Prop} {d : PyData}
theorem evb_of (st : Stay p I) (h : ∀ H, I H → (∃ xs, H p = some (.lst xs)) → EvD K p te σ H d) : EvB K p a I te σ 0 (fun e => e = d) := fun H N hI hp _ Q k =>
  h H hI hp.hasP H (Ex.refl H) Q fun v H1 e1 q => k v d H1 (Ex.b e1) (st.go H H1 hI hp.hasP (Ex.b e1)) (hp.ex e1) q rfl
theorem evb_mono (h : EvB K p a I te σ n R) (f : ∀ d, R d → R' d) : EvB K p a I te σ n R' := fun H N hI hp hN Q k => h H N hI hp hN Q fun v d H' e hI' hp' q r => k v d H' e hI' hp' q (f d r)
theorem evb_nil : EvBs K p a I tNil σ 0 (fun ds => ds = []) := fun H N hI hp _ Q k => k [] [] H (ExB.refl p H) hI hp .nil rfl
theorem evb_cons (h : EvB K p a I te σ n R) (hs : EvBs K p a I tr σ m Rs) : EvBs K p a I (tCons te tr) σ (n + m) (fun ds => ∃ d ds', ds = d :: ds' ∧ R d ∧ Rs ds') := fun H N hI hp hN Q k =>
  h H N hI hp (by omega) _ fun v d H1 e1 hI1 hp1 q r => hs H1 (N + n) hI1 hp1 (by omega) _ fun vs ds H2 e2 hI2 hp2 qs rs => by
    obtain ⟨xs, hx⟩ := hp1.hasP
    exact k (v :: vs) (d :: ds) H2 (e1.trans e2) hI2 (by rw [← Nat.add_assoc]; exact hp2) (.cons (Dq.exb hx e2 _ _ q) qs) ⟨d, ds, rfl, r, rs⟩
theorem evb_consG {G : PyData → Prop} {l : Nat} (h : EvB K p a I te σ n G) (hs : EvBs K p a I tr σ m (fun ds => ds.length = l ∧ ∀ d ∈ ds, G d)) : EvBs K p a I (tCons te tr) σ (n + m) (fun ds => ds.length = l + 1 ∧ ∀ d ∈ ds, G d) := fun H N hI hp hN Q k =>
  evb_cons h hs H N hI hp hN Q fun vs ds H' e hI' hp' qs ⟨d, ds', e1, r, rl, rs⟩ => k vs ds H' e hI' hp' qs (by
    subst e1
    refine ⟨by rw [List.length_cons, rl], ?_⟩
    intro x hx
    rcases List.mem_cons.mp hx with rfl | hx
    · exact r
    · exact rs x hx)
theorem evb_nilG {G : PyData → Prop} : EvBs K p a I tNil σ 0 (fun ds => ds.length = 0 ∧ ∀ d ∈ ds, G d) := fun H N hI hp _ Q k => k [] [] H (ExB.refl p H) hI hp .nil ⟨rfl, fun d z => nomatch z⟩
theorem evb_tup (st : Stay p I) (h : EvBs K p a I ta σ n Rs) (hl : ∀ ds, Rs ds → ds.length ≤ 1000) : EvB K p a I (tTup ta) σ n (fun d => ∃ ds, d = .tuple ds ∧ Rs ds) := fun H N hI hp hN Q k =>
  h H N hI hp hN _ fun vs ds H1 e1 hI1 hp1 qs rs => ⟨Nat.le_of_lt (small1000 (by rw [qs.len]; exact hl ds rs)), fun t ft => by
    have x1 := Ex.new (o := .tup vs) ft
    exact k (.ref t) (.tuple ds) _ (e1.trans (Ex.b x1)) (st.go _ _ hI1 hp1.hasP (Ex.b x1)) (hp1.ex x1) (.tup (SqT.of upd_same) (DqAll.ex x1 _ _ qs)) ⟨ds, rfl, rs⟩⟩
end
/-- a value, and whether it is a yard -/
def Yd (d : PyData) : Prop := ∃ y b, d = .tuple [y, .bool b] ∧ yardB y = b
/-! ### yards, asked -/
def dLow : List PyData := [.tuple [.int 0, .int 1], .tuple [.int 1, .int 1], .tuple [.int 3, .int 2], .tuple [.int (-1), .int 2], .tuple [.int 2, .int 4], .int 1, .none, .list [.int 1, .int 2], .tuple [.bool true, .int 2], .tuple [.int 1, .int 0]]
theorem ifF {c : Bool} {A B : Prop} (h : c = false) (x : B) : if c = true then A else B := by
  rw [h]
  exact iteF x
theorem low_no : ∀ d ∈ dLow, prpB d = false := by decide +kernel
theorem low_nc : ∀ d ∈ dLow, Nc 100 3 d := by
  have i1 : Nc 10 0 (.int 1) := nc_iI 1 (by decide)
  have i2 : Nc 10 0 (.int 2) := nc_iI 2 (by decide)
  refine List.forall_mem_cons.mpr ⟨nc_ii 0 1 (by decide) (by decide), List.forall_mem_cons.mpr ⟨nc_ii 1 1 (by decide) (by decide), List.forall_mem_cons.mpr ⟨nc_ii 3 2 (by decide) (by decide), List.forall_mem_cons.mpr ⟨nc_ii (-1) 2 (by decide) (by decide), List.forall_mem_cons.mpr ⟨nc_ii 2 4 (by decide) (by decide), List.forall_mem_cons.mpr ⟨i1.mono (by decide) (by decide), List.forall_mem_cons.mpr ⟨nc_none.mono (by decide) (by decide), List.forall_mem_cons.mpr ⟨?_, List.forall_mem_cons.mpr ⟨?_, List.forall_mem_cons.mpr ⟨nc_ii 1 0 (by decide) (by decide), fun _ z => nomatch z⟩⟩⟩⟩⟩⟩⟩⟩⟩⟩
  · exact (nc_lst (nca_cons i1 (nca_cons i2 nca_nil))).mono (by decide) (by decide)
  · exact (nc_tup (nca_cons ((nc_bool true).mono (Nat.le_refl _) (Nat.le_refl _)) (nca_cons i2 nca_nil))).mono (by decide) (by decide)
theorem yard_t {x : PyData} {ps : List PyData} (h : prpB x = true) (l1 : 1 ≤ ps.length) (l3 : ps.length ≤ 3) (hp : ps.all projB = true) (hs : (ps.map lenD).sum ≤ 12) : yardB (.tuple [x, .tuple ps]) = true := by
  show (prpB x && ((decide (1 ≤ ps.length) && decide (ps.length ≤ 3)) && (ps.all projB && decide ((ps.map lenD).sum ≤ 12)))) = true
  rw [h, decide_eq_true l1, decide_eq_true l3, hp, decide_eq_true hs]
  rfl
theorem yard_lo {x y : PyData} (h : prpB x = false) : yardB (.tuple [x, y]) = false := by
  cases y <;> first | rfl | (show (_ && _) = _; rw [h, Bool.false_and])
theorem yard_len {x : PyData} {ps : List PyData} (h : 3 < ps.length) : yardB (.tuple [x, .tuple ps]) = false := by
  show (prpB x && ((decide (1 ≤ ps.length) && decide (ps.length ≤ 3)) && (ps.all projB && decide ((ps.map lenD).sum ≤ 12)))) = false
  rw [decide_eq_false (p := ps.length ≤ 3) (by omega), Bool.and_false, Bool.false_and, Bool.and_false]
theorem yard_bad {x : PyData} {ps : List PyData} (h : ps.all projB = false) : yardB (.tuple [x, .tuple ps]) = false := by
  show (prpB x && ((decide (1 ≤ ps.length) && decide (ps.length ≤ 3)) && (ps.all projB && decide ((ps.map lenD).sum ≤ 12)))) = false
  rw [h, Bool.false_and, Bool.and_false, Bool.and_false]
theorem yard_sum {x : PyData} {ps : List PyData} (h : 12 < (ps.map lenD).sum) : yardB (.tuple [x, .tuple ps]) = false := by
  show (prpB x && ((decide (1 ≤ ps.length) && decide (ps.length ≤ 3)) && (ps.all projB && decide ((ps.map lenD).sum ≤ 12)))) = false
  rw [decide_eq_false (p := (ps.map lenD).sum ≤ 12) (by omega), Bool.and_false, Bool.and_false, Bool.and_false]
theorem proj_of {qs : List Rat} (l1 : 1 ≤ qs.length) (l8 : qs.length ≤ 8) : projB (.tuple (qs.map frd)) = true := by
  show ((decide (1 ≤ (qs.map frd).length) && decide ((qs.map frd).length ≤ 8)) && (qs.map frd).all frB) = true
  rw [List.length_map, decide_eq_true l1, decide_eq_true l8, Bool.and_self, Bool.true_and, List.all_eq_true]
  intro d hd
  obtain ⟨q, _, rfl⟩ := List.mem_map.mp hd
  exact frB_frd q
section
variable {K : PySem.W.Frag} {p a : Addr} {σ : L2.St} {N : Nat}
theorem nbool (b : Bool) : Nc 900000 60 (.bool b) := (nc_bool b).mono (by decide) (by decide)
/-- the test that a told truth is due -/
theorem s_sameP {H : Hp} {D : Ends} {te : TE} {d : PyData} {b : Bool} {f : PyData → Bool} {Ts : List Addr} {E E' : XK} {t : TS} (h : EvD K p te σ H d) (ht : TBs Ts H) (hb : f d = b) (k : ∀ H', ExT H H' → TBs Ts H' → D.nx σ H') : tIfS (tNot (tB (tCall (spSame K) [] E (tCons (tCall (spProj K Ts f) [] E' (tCons te tNil)) (tCons (tC (.bl b)) tNil))))) t tNext D σ H := by
  refine h H (Ex.refl H) _ fun w H1 e1 q => ?_
  refine ⟨p, w, d, rfl, q, ht.ex e1, fun H2 e2 t2 => ?_⟩
  refine ⟨p, _, _, .bool (f d), .bool b, rfl, .bl _, .bl _, nbool _, nbool _, fun H3 e3 => ⟨_, rfl, ifF (by rw [hb, decide_eq_true rfl]; rfl) ?_⟩⟩
  exact k H3 (((Ex.t e1).trans e2).trans (Ex.t e3)) (t2.ex e3)
theorem evb_bent {I : Hp → Prop} {v : V} {qs : List Rat} {E : XK} {i : Nat} (st : Stay p I) (h0 : σ[0]? = some (some (.ref p))) (hi : σ[i]? = some (some v)) (hv : ∀ H, I H → Dq K p H v (.tuple (qs.map frd))) (bq : ∀ q ∈ qs, Bd 10 q) (l1 : 1 ≤ qs.length) (l8 : qs.length ≤ 8) : EvB K p a I (tCall (spBent K) [] E (tCons (tVar 0) (tCons (tVar i) tNil))) σ 3 (fun d => projB d = false) := fun H N hI hp hN Q k =>
  ⟨_, h0, _, hi, p, a, v, qs, N, rfl, hp, by omega, hv H hI, bq, l1, l8, fun x d H' e hp' q r _ => k x d H' e (st.go H H' hI hp.hasP e) hp' q r⟩
end
section
variable {P : Program} {w : World} {K : PySem.W.Frag} {mg : Str → Option Value} {base : Heap}
def spYards (K : PySem.W.Frag) (Ts : List Addr) : Sp := fun vs H Q _ => ∃ (p a : Addr) (u v : V) (s : Rat) (qs : List Rat) (N : Nat), vs = [.ref p, u, v] ∧ Pen H p a N ∧ N ≤ 800 ∧ TBs Ts H ∧ Dq K p H u (frd s) ∧ prpB (frd s) = true ∧ Bd 10 s ∧ Dq K p H v (.tuple (qs.map frd)) ∧ (∀ q ∈ qs, Bd 10 q) ∧ 1 ≤ qs.length ∧ qs.length ≤ 8 ∧
  ∀ H', ExBT p H H' → Pen H' p a (N + 10) → TBs Ts H' → Q (.bl true) H'
theorem ok__law_yards (T : Txt K mg) (tb_is_project : GxR.TabB base mg T.c_is_project T.P_is_project) (tb_is_yard : GxR.TabB base mg T.c_is_yard T.P_is_yard) : FnG P w K mg base 8 T.d__law_yards.a T.d__law_yards.fd ["_law_pen", "_law_part", "_law_project_here"] (spYards K [T.P_is_project, T.P_is_yard]) := by
  refine okG T.d__law_yards.F sc__law_yards (fun vs H Q E h => ?_) (fun cdv A outer s H vs Q gd hr h => ?_)
  · obtain ⟨p, a, u, v, s', qs, N, rfl, _⟩ := h
    rfl
  · obtain ⟨p, a, u, v, s', qs, N, rfl, hp, hN, ht, hu', hs, bs, hv, bq, l1, l8, k⟩ := h
    have hu := hr.units
    refine ⟨_, (pss_cons (ps_set (i := 3) sc__law_yards.nd rfl (Or.inl rfl) (pe_call (ok__law_one T) (hr.mono (by decide)) (by rfl) T.d__law_one.g T.d__law_one.F.kp T.d__law_one.b .nil pass0 (pa_cons (pv 0) (pa_cons (pe_lstN (pa_cons (pe_tup (pa_cons pe_int (pa_cons pe_int pa_nil))) (pa_cons (pe_tup (pa_cons pe_int (pa_cons pe_int pa_nil))) (pa_cons (pe_tup (pa_cons pe_int (pa_cons pe_int pa_nil))) (pa_cons (pe_tup (pa_cons (pe_un un_neg pe_int) (pa_cons pe_int pa_nil))) (pa_cons (pe_tup (pa_cons pe_int (pa_cons pe_int pa_nil))) (pa_cons pe_int (pa_cons pe_non (pa_cons (pe_lstN (pa_cons pe_int (pa_cons pe_int pa_nil))) (pa_cons (pe_tup (pa_cons pe_bl (pa_cons pe_int pa_nil))) (pa_cons (pe_tup (pa_cons pe_int (pa_cons pe_int pa_nil))) pa_nil))))))))))) pa_nil))))
      (pss_cons (ps_set (i := 4) sc__law_yards.nd rfl (Or.inl rfl) (pe_slice sl_tupA (pv 2) po_none (po_some pe_int)))
      (pss_cons (ps_for PassesOwn.never rfl (pi_list (pe_lstN (pa_cons (pe_tup (pa_cons (pe_tup (pa_cons (pv 1) (pa_cons (pe_tup (pa_cons (pv 4) pa_nil)) pa_nil))) (pa_cons pe_bl pa_nil))) (pa_cons (pe_tup (pa_cons (pe_tup (pa_cons (pv 1) (pa_cons (pe_tup (pa_cons (pv 4) (pa_cons (pv 4) (pa_cons (pv 4) pa_nil)))) pa_nil))) (pa_cons pe_bl pa_nil))) (pa_cons (pe_tup (pa_cons (pe_tup (pa_cons (pv 1) (pa_cons (pe_tup (pa_cons (pv 4) (pa_cons (pv 4) (pa_cons (pv 4) (pa_cons (pe_slice sl_tupA (pv 4) po_none (po_some pe_int)) pa_nil))))) pa_nil))) (pa_cons pe_bl pa_nil))) (pa_cons (pe_tup (pa_cons (pe_tup (pa_cons (pv 1) (pa_cons (pe_tup pa_nil) pa_nil))) (pa_cons pe_bl pa_nil))) (pa_cons (pe_tup (pa_cons (pe_tup (pa_cons (pv 3) (pa_cons (pe_tup (pa_cons (pv 4) pa_nil)) pa_nil))) (pa_cons pe_bl pa_nil))) (pa_cons (pe_tup (pa_cons (pe_lstN (pa_cons (pv 1) (pa_cons (pe_tup (pa_cons (pv 4) pa_nil)) pa_nil))) (pa_cons pe_bl pa_nil))) (pa_cons (pe_tup (pa_cons (pe_tup (pa_cons (pv 1) (pa_cons (pe_lstN (pa_cons (pv 4) pa_nil)) pa_nil))) (pa_cons pe_bl pa_nil))) (pa_cons (pe_tup (pa_cons (pe_tup (pa_cons (pv 1) (pa_cons (pe_tup (pa_cons (pv 4) (pa_cons (pe_call (ok__law_bent T) (hr.mono (by decide)) (by rfl) T.d__law_bent.g T.d__law_bent.F.kp T.d__law_bent.b .nil pass0 (pa_cons (pv 0) (pa_cons (pv 4) pa_nil))) pa_nil))) pa_nil))) (pa_cons pe_bl pa_nil))) (pa_cons (pe_tup (pa_cons (pe_tup (pa_cons (pv 1) (pa_cons (pe_tup (pa_cons (pe_call (ok__law_bent T) (hr.mono (by decide)) (by rfl) T.d__law_bent.g T.d__law_bent.F.kp T.d__law_bent.b .nil pass0 (pa_cons (pv 0) (pa_cons (pv 4) pa_nil))) (pa_cons (pv 4) pa_nil))) pa_nil))) (pa_cons pe_bl pa_nil))) (pa_cons (pe_tup (pa_cons (pe_tup (pa_cons (pv 1) (pa_cons (pe_tup (pa_cons (pv 4) pa_nil)) (pa_cons pe_non pa_nil)))) (pa_cons pe_bl pa_nil))) (pa_cons (pe_tup (pa_cons pe_non (pa_cons pe_bl pa_nil))) pa_nil))))))))))))) (pg_tup (by rfl) (pgs_cons (pg_name (i := 5) sc__law_yards.nd rfl (Or.inl rfl)) (pgs_cons (pg_name (i := 6) sc__law_yards.nd rfl (Or.inl rfl)) pgs_nil))) (pss_one (ps_if (pt_not (pt_val (pe_callG (ok__law_same T) gd (hr.mono (by decide)) (by rfl) T.d__law_same.g T.d__law_same.F.kp T.d__law_same.b (pa_cons (pe_call (ok_is_yard T tb_is_project tb_is_yard) (hr.mono (by decide)) (by rfl) T.d_is_yard.g T.d_is_yard.F.kp T.d_is_yard.b .nil pass0 (pa_cons (pv 5) pa_nil)) (pa_cons (pv 6) pa_nil))))) (pss_one (ps_ret pe_bl)) pss_nil)))
      (pss_cons (ps_par (i := 7) (j := 8) (by rfl) sc__law_yards.nd rfl rfl (by decide) rfl rfl (pa_cons (pe_op op_repT (pe_slice sl_tupA (pv 2) po_none (po_some pe_int)) pe_int) (pa_cons (pe_op op_repT (pe_slice sl_tupA (pv 2) po_none (po_some pe_int)) pe_int) pa_nil)) (by rfl))
      (pss_cons (ps_if (pt_not (pt_val (pe_callG (ok__law_same T) gd (hr.mono (by decide)) (by rfl) T.d__law_same.g T.d__law_same.F.kp T.d__law_same.b (pa_cons (pe_call (ok_is_yard T tb_is_project tb_is_yard) (hr.mono (by decide)) (by rfl) T.d_is_yard.g T.d_is_yard.F.kp T.d_is_yard.b .nil pass0 (pa_cons (pe_tup (pa_cons (pv 1) (pa_cons (pe_tup (pa_cons (pv 7) (pa_cons (pe_slice sl_tupA (pv 8) po_none (po_some pe_int)) pa_nil))) pa_nil))) pa_nil)) (pa_cons pe_bl pa_nil))))) (pss_one (ps_ret pe_bl)) pss_nil)
      (pss_cons (ps_if (pt_not (pt_val (pe_callG (ok__law_same T) gd (hr.mono (by decide)) (by rfl) T.d__law_same.g T.d__law_same.F.kp T.d__law_same.b (pa_cons (pe_call (ok_is_yard T tb_is_project tb_is_yard) (hr.mono (by decide)) (by rfl) T.d_is_yard.g T.d_is_yard.F.kp T.d_is_yard.b .nil pass0 (pa_cons (pe_tup (pa_cons (pv 1) (pa_cons (pe_tup (pa_cons (pv 7) (pa_cons (pv 8) pa_nil))) pa_nil))) pa_nil)) (pa_cons pe_bl pa_nil))))) (pss_one (ps_ret pe_bl)) pss_nil)
      (pss_cons (ps_for PassesOwn.never rfl (pi_range1 (by rfl) T.n_range (pa_cons pe_int pa_nil)) (pg_name (i := 9) sc__law_yards.nd rfl (Or.inl rfl)) (pss_cons (ps_if (pt_not (pt_val (pe_callG (ok__law_same T) gd (hr.mono (by decide)) (by rfl) T.d__law_same.g T.d__law_same.F.kp T.d__law_same.b (pa_cons (pe_call (ok__law_told T tb_is_project) (hr.mono (by decide)) (by rfl) T.d__law_told.g T.d__law_told.F.kp T.d__law_told.b .nil pass0 (pa_cons (pv 9) (pa_cons (pv 3) (pa_cons (pv 2) pa_nil)))) (pa_cons (pe_tup (pa_cons (pe_lstN (pa_cons pe_str pa_nil)) (pa_cons (pv 3) pa_nil))) pa_nil))))) (pss_one (ps_ret pe_bl)) pss_nil)
      (pss_one (ps_if (pt_not (pt_val (pe_callG (ok__law_same T) gd (hr.mono (by decide)) (by rfl) T.d__law_same.g T.d__law_same.F.kp T.d__law_same.b (pa_cons (pe_call (ok__law_told T tb_is_project) (hr.mono (by decide)) (by rfl) T.d__law_told.g T.d__law_told.F.kp T.d__law_told.b .nil pass0 (pa_cons (pv 9) (pa_cons (pv 3) (pa_cons pe_non pa_nil)))) (pa_cons (pe_tup (pa_cons (pe_lstN (pa_cons pe_str pa_nil)) (pa_cons (pv 3) pa_nil))) pa_nil))))) (pss_one (ps_ret pe_bl)) pss_nil))))
      (pss_one (ps_ret pe_bl))))))))), ?_⟩
    refine n_seq ?_
    obtain ⟨xp, hxp⟩ := hp.hasP
    refine rd_pickN (K := K) (ds := dLow) (eds_cons (ed_P ed_I ed_I) (eds_cons (ed_P ed_I ed_I) (eds_cons (ed_P ed_I ed_I) (eds_cons (ed_P ed_N ed_I) (eds_cons (ed_P ed_I ed_I) (eds_cons ed_I (eds_cons ed_none (eds_cons (ed_lst hxp (eds_cons ed_I (eds_cons ed_I eds_nil)) (by show 2 ≤ 1000; decide)) (eds_cons (ed_P ed_bool ed_I) (eds_cons (ed_P ed_I ed_I) eds_nil)))))))))) hp rfl (by decide) (by decide) (by omega) fun y lo H1 hlo eb1 hp1 qlo => ?_
    have lno := low_no lo hlo
    have lnc := low_nc lo hlo
    have hu1 := Dq.exb hxp eb1 _ _ hu'
    have hv1 := Dq.exb hxp eb1 _ _ hv
    have ht1 := ht.upd (ys := []) hxp eb1
    dsimp only
    refine n_seq ?_
    refine s_asgP (ed_slHi (K := K) (p := p) (n := 4) rfl hv1 ev_c) fun f H2 e2 qf => ?_
    rw [← List.map_take] at qf
    have fl1 : 1 ≤ (qs.take 4).length := by rw [List.length_take]; omega
    have fl4 : (qs.take 4).length ≤ 4 := by rw [List.length_take]; omega
    have fb : ∀ q ∈ qs.take 4, Bd 10 q := fun q hq => bq q (List.mem_of_mem_take hq)
    generalize qs.take 4 = fw at qf fl1 fl4 fb
    have hu2 := Dq.ex e2 _ _ hu1
    have hv2 := Dq.ex e2 _ _ hv1
    have lo2 := Dq.ex e2 _ _ qlo
    have hp2 := hp1.ex e2
    have ht2 := ht1.ex e2
    have EB2 : ExBT p H H2 := (ExB.bt eb1).trans (Ex.bt e2)
    dsimp only
    refine n_seq ?_
    -- the values, and what is due
    have pf : projB (.tuple (fw.map frd)) = true := proj_of fl1 (by omega)
    have lf : lenD (.tuple (fw.map frd)) = fw.length := List.length_map ..
    have st : Stay p (fun H => Dq K p H u (frd s') ∧ Dq K p H v (.tuple (qs.map frd)) ∧ Dq K p H y lo ∧ Dq K p H f (.tuple (fw.map frd))) := ⟨fun G G' hI hh e => by
      obtain ⟨xs, hx⟩ := hh
      exact ⟨Dq.exb hx e _ _ hI.1, Dq.exb hx e _ _ hI.2.1, Dq.exb hx e _ _ hI.2.2.1, Dq.exb hx e _ _ hI.2.2.2⟩⟩
    generalize hI : (fun H => Dq K p H u (frd s') ∧ Dq K p H v (.tuple (qs.map frd)) ∧ Dq K p H y lo ∧ Dq K p H f (.tuple (fw.map frd))) = I at st
    have I2 : I H2 := by rw [← hI]; exact ⟨hu2, hv2, lo2, qf⟩
    have iu : ∀ {H}, I H → Dq K p H u (frd s') := fun {H} h => by rw [← hI] at h; exact h.1
    have iv : ∀ {H}, I H → Dq K p H v (.tuple (qs.map frd)) := fun {H} h => by rw [← hI] at h; exact h.2.1
    have iy : ∀ {H}, I H → Dq K p H y lo := fun {H} h => by rw [← hI] at h; exact h.2.2.1
    have iff_ : ∀ {H}, I H → Dq K p H f (.tuple (fw.map frd)) := fun {H} h => by rw [← hI] at h; exact h.2.2.2
    have t2 : ∀ {σ H ta tb d e}, EvD K p ta σ H d → EvD K p tb σ H e → EvD K p (tTup (tCons ta (tCons tb tNil))) σ H (.tuple [d, e]) := fun h g => ed_tup (eds_cons h (eds_cons g eds_nil)) (by show 2 ≤ 1000; decide)
    have t1' : ∀ {σ H ta d}, EvD K p ta σ H d → EvD K p (tTup (tCons ta tNil)) σ H (.tuple [d]) := fun h => ed_tup (eds_cons h eds_nil) (by show 1 ≤ 1000; decide)
    have yd : ∀ {d y b}, yardB y = b → d = PyData.tuple [y, .bool b] → Yd d := fun {d y b} h e => ⟨y, b, e, h⟩
    let σ0 : L2.St := [some (.ref p), some u, some v, some y, some f, none, none, none, none, none]
    have c1 : EvB K p a I _ σ0 0 Yd := evb_mono (evb_of st fun H h _ => t2 (t2 (ed_var (i := 1) rfl (iu h)) (t1' (ed_var (i := 4) rfl (iff_ h)))) (ed_bool (b := true))) fun d e => yd (yard_t hs (by show 1 ≤ 1; decide) (by show 1 ≤ 3; decide) (by simp [pf]) (by simp [lf]; omega)) e
    have c2 : EvB K p a I _ σ0 0 Yd := evb_mono (evb_of st fun H h _ => t2 (t2 (ed_var (i := 1) rfl (iu h)) (ed_tup (eds_cons (ed_var (i := 4) rfl (iff_ h)) (eds_cons (ed_var (i := 4) rfl (iff_ h)) (eds_cons (ed_var (i := 4) rfl (iff_ h)) eds_nil))) (by show 3 ≤ 1000; decide))) (ed_bool (b := true))) fun d e => yd (yard_t hs (by show 1 ≤ 3; decide) (by show 3 ≤ 3; decide) (by simp [pf]) (by simp [lf]; omega)) e
    have c3 : EvB K p a I _ σ0 0 Yd := evb_mono (evb_of st fun H h _ => t2 (t2 (ed_var (i := 1) rfl (iu h)) (ed_tup (eds_cons (ed_var (i := 4) rfl (iff_ h)) (eds_cons (ed_var (i := 4) rfl (iff_ h)) (eds_cons (ed_var (i := 4) rfl (iff_ h)) (eds_cons (ed_slHi (i := 4) (n := 1) rfl (iff_ h) ev_c) eds_nil)))) (by show 4 ≤ 1000; decide))) (ed_bool (b := false))) fun d e => yd (yard_len (by show 3 < 4; decide)) e
    have c4 : EvB K p a I _ σ0 0 Yd := evb_mono (evb_of st fun H h _ => t2 (t2 (ed_var (i := 1) rfl (iu h)) (ed_tup eds_nil (by decide))) (ed_bool (b := false))) fun d e => yd (by show (_ && ((decide (1 ≤ 0) && _) && _)) = false; rw [decide_eq_false (by decide), Bool.false_and, Bool.false_and, Bool.and_false]) e
    have c5 : EvB K p a I _ σ0 0 Yd := evb_mono (evb_of st fun H h _ => t2 (t2 (ed_var (i := 3) rfl (iy h)) (t1' (ed_var (i := 4) rfl (iff_ h)))) (ed_bool (b := false))) fun d e => yd (yard_lo lno) e
    have c6 : EvB K p a I _ σ0 0 Yd := evb_mono (evb_of st fun H h hh => t2 (ed_lst hh.choose_spec (eds_cons (ed_var (i := 1) rfl (iu h)) (eds_cons (t1' (ed_var (i := 4) rfl (iff_ h))) eds_nil)) (by show 2 ≤ 1000; decide)) (ed_bool (b := false))) fun d e => yd rfl e
    have c7 : EvB K p a I _ σ0 0 Yd := evb_mono (evb_of st fun H h hh => t2 (t2 (ed_var (i := 1) rfl (iu h)) (ed_lst hh.choose_spec (eds_cons (ed_var (i := 4) rfl (iff_ h)) eds_nil) (by show 1 ≤ 1000; decide))) (ed_bool (b := false))) fun d e => yd rfl e
    have bent : EvB K p a I _ σ0 3 (fun d => projB d = false) := evb_bent (K := K) (a := a) (E := E0) (i := 4) st rfl rfl (fun H h => iff_ h) fb fl1 (by omega)
    have c8 : EvB K p a I _ σ0 3 Yd := evb_mono (evb_tup st (evb_cons (evb_tup st (evb_cons (evb_of st fun H h _ => ed_var (i := 1) rfl (iu h)) (evb_cons (evb_tup st (evb_cons (evb_of st fun H h _ => ed_var (i := 4) rfl (iff_ h)) (evb_cons bent evb_nil)) (by rintro _ ⟨_, _, rfl, _, _, _, rfl, _, rfl⟩; show 2 ≤ 1000; decide)) evb_nil)) (by rintro _ ⟨_, _, rfl, _, _, _, rfl, _, rfl⟩; show 2 ≤ 1000; decide)) (evb_cons (evb_of st fun H h _ => ed_bool (b := false)) evb_nil)) (by rintro _ ⟨_, _, rfl, _, _, _, rfl, _, rfl⟩; show 2 ≤ 1000; decide)) fun d => by
      rintro ⟨_, rfl, _, _, rfl, ⟨_, rfl, _, _, rfl, rfl, _, _, rfl, ⟨_, rfl, _, _, rfl, rfl, b, _, rfl, hb, rfl⟩, rfl⟩, _, _, rfl, rfl, rfl⟩
      exact ⟨_, false, rfl, yard_bad (by simp [hb])⟩
    have c9 : EvB K p a I _ σ0 3 Yd := evb_mono (evb_tup st (evb_cons (evb_tup st (evb_cons (evb_of st fun H h _ => ed_var (i := 1) rfl (iu h)) (evb_cons (evb_tup st (evb_cons bent (evb_cons (evb_of st fun H h _ => ed_var (i := 4) rfl (iff_ h)) evb_nil)) (by rintro _ ⟨_, _, rfl, _, _, _, rfl, _, rfl⟩; show 2 ≤ 1000; decide)) evb_nil)) (by rintro _ ⟨_, _, rfl, _, _, _, rfl, _, rfl⟩; show 2 ≤ 1000; decide)) (evb_cons (evb_of st fun H h _ => ed_bool (b := false)) evb_nil)) (by rintro _ ⟨_, _, rfl, _, _, _, rfl, _, rfl⟩; show 2 ≤ 1000; decide)) fun d => by
      rintro ⟨_, rfl, _, _, rfl, ⟨_, rfl, _, _, rfl, rfl, _, _, rfl, ⟨_, rfl, b, _, rfl, hb, _, _, rfl, rfl, rfl⟩, rfl⟩, _, _, rfl, rfl, rfl⟩
      exact ⟨_, false, rfl, yard_bad (by simp [hb])⟩
    have c10 : EvB K p a I _ σ0 0 Yd := evb_mono (evb_of st fun H h _ => t2 (ed_tup (eds_cons (ed_var (i := 1) rfl (iu h)) (eds_cons (t1' (ed_var (i := 4) rfl (iff_ h))) (eds_cons ed_none eds_nil))) (by show 3 ≤ 1000; decide)) (ed_bool (b := false))) fun d e => yd rfl e
    have c11 : EvB K p a I _ σ0 0 Yd := evb_mono (evb_of st fun H h _ => t2 ed_none (ed_bool (b := false))) fun d e => yd rfl e
    have all : EvBs K p a I _ σ0 _ (fun ds => ds.length = 11 ∧ ∀ d ∈ ds, Yd d) := evb_consG c1 (evb_consG c2 (evb_consG c3 (evb_consG c4 (evb_consG c5 (evb_consG c6 (evb_consG c7 (evb_consG c8 (evb_consG c9 (evb_consG c10 (evb_consG c11 evb_nilG))))))))))
    refine (show iList K (tLstN (tCons _ _)) _ H2 _ from ?_)
    refine (show tLstN (tCons _ _) _ H2 _ from ?_)
    refine (show tCons _ _ _ H2 _ from ?_)
    refine all H2 (N + 1) I2 hp2 (by omega) _ fun vs ds H3 eb3 I3 hp3 qs3 ys => ?_
    obtain ⟨dl, ys⟩ := ys
    have vl := qs3.len
    obtain ⟨x2, hx2⟩ := hp2.hasP
    have ht3 := ht2.upd (ys := []) hx2 eb3
    have EB3 := EB2.trans (ExB.bt eb3)
    refine ⟨Nat.le_of_lt (small1000 (by omega)), fun L fL _ => ?_⟩
    have x4 := Ex.new (o := .lst vs) fL
    have I4 : I (upd H3 L (.lst vs)) := st.go _ _ I3 hp3.hasP (Ex.b x4)
    have hp4 := hp3.ex x4
    have ht4 := ht3.ex x4
    have EB4 := EB3.trans (Ex.bt x4)
    have qs4 := DqAll.ex x4 _ _ qs3
    obtain ⟨x3, hx3⟩ := hp3.hasP
    have Lp : L ≠ p := (ne_of_none hx3 fL).symm
    have hL : (upd H3 L (.lst vs)) L = some (.lst vs) := upd_same
    generalize upd H3 L (.lst vs) = H4 at I4 hp4 ht4 EB4 qs4 hL
    clear all c1 c2 c3 c4 c5 c6 c7 c8 c9 c10 c11 bent
    have hu4 := iu I4
    have hv4 := iv I4
    have lo4 := iy I4
    clear I4 I3 I2 iu iv iy iff_ st hI
    obtain ⟨x4', hx4⟩ := hp4.hasP
    have nb : ∀ b : Bool, Nc 900000 60 (.bool b) := fun b => (nc_bool b).mono (by decide) (by decide)
    refine ⟨L, rfl, ⟨_, SqL.of hL⟩, ?_⟩
    refine for_list (K := K) (a := L) (xs := vs) (fun i σ G => ∃ y5 y6, σ = [some (.ref p), some u, some v, some y, some f, y5, y6, none, none, none] ∧ ExBT p H4 G ∧ Pen G p a (N + 7) ∧ TBs [T.P_is_project, T.P_is_yard] G) ⟨none, none, rfl, ExBT.refl p H4, hp4.mono (by omega), ht4⟩ (fun i σ G _ h => by
      obtain ⟨_, _, _, e, _⟩ := h
      exact SqL.of (ExBT.l e Lp hL)) ?_ ?_
    · rintro i x σ G hx ⟨y5, y6, rfl, e, hpG, htG⟩
      have il : i < vs.length := (List.getElem?_eq_some_iff.mp hx).1
      obtain ⟨di, hdi⟩ : ∃ di, ds[i]? = some di := ⟨_, List.getElem?_eq_getElem (by omega)⟩
      obtain ⟨x', hx', qx⟩ := qs4.get hdi
      rw [hx] at hx'
      cases hx'
      obtain ⟨yy, b, rfl, hyb⟩ := ys di (List.mem_of_getElem? hdi)
      obtain ⟨c, zs, rfl, hS, hA⟩ := (Dq.bt hx4 e _ _ qx).seq
      cases hA with
      | @cons z1 _ _ _ q1 hA =>
      cases hA with
      | cons q2 hA =>
      cases hA
      cases q2
      refine ⟨c, [z1, .bl b], rfl, hS, rfl, _, _, rfl, _, _, rfl, rfl, ?_⟩
      dsimp only
      refine ⟨z1, rfl, p, z1, yy, rfl, q1, htG, fun G2 e2 t2 => ?_⟩
      refine ⟨.bl b, rfl, p, _, _, .bool (yardB yy), .bool b, rfl, .bl _, .bl _, nb _, nb _, fun G3 e3 => ⟨_, rfl, ifF (by rw [hyb, decide_eq_true rfl]; rfl) ?_⟩⟩
      refine n_next ?_
      exact ⟨_, _, rfl, (e.trans (ExT.bt e2)).trans (Ex.bt e3), (hpG.xt e2).ex e3, t2.ex e3⟩
    rintro σ G ⟨y5, y6, rfl, e, hpG, htG⟩
    have EBG := EB4.trans e
    have huG := Dq.bt hx4 e _ _ hu4
    have hvG := Dq.bt hx4 e _ _ hv4
    have loG := Dq.bt hx4 e _ _ lo4
    clear qs4 qs3 ys hL e hu4 hv4 lo4 hx4 EB4 EB3 EB2 eb3 x4 fL hx3 Lp ht4 hp4
    dsimp only
    refine n_seq ?_
    obtain ⟨q0, qt, rfl⟩ : ∃ q0 qt, qs = q0 :: qt := match qs, l1 with | q0 :: qt, _ => ⟨q0, qt, rfl⟩
    have one : ∀ {G : Hp} {σ : L2.St}, σ[2]? = some (some v) → Dq K p G v (.tuple ((q0 :: qt).map frd)) → EvD K p (tSl (rSlA K) (tVar 2) tNoPart (tPart (tC (.int ((1 : Nat) : Int))))) σ G (.tuple [frd q0]) := fun h2 h => ed_slHi (n := 1) h2 h ev_c
    have rp : ∀ n : Nat, (List.replicate n [frd q0]).flatten = (List.replicate n q0).map frd := fun n => by
      induction n with
      | zero => rfl
      | succ n ih => rw [List.replicate_succ, List.flatten_cons, ih, List.replicate_succ]; rfl
    refine (show tCons _ _ _ G _ from ?_)
    refine (eds_cons (K := K) (p := p) (ed_repN (n := 8) (one rfl hvG) (by simp) (by decide) (by decide) (by show 1 ≤ 1000; decide)) (eds_cons (ed_repN (n := 5) (one rfl hvG) (by simp) (by decide) (by decide) (by show 1 ≤ 1000; decide)) eds_nil)) G (Ex.refl _) _ fun vs2 G2 e2 q2 => ?_
    rw [rp 8, rp 5] at q2
    cases q2 with
    | @cons x8 _ _ _ q8 q2 =>
    cases q2 with
    | @cons x5 _ _ _ q5 q2 =>
    cases q2
    refine ⟨_, _, rfl, ?_⟩
    dsimp only
    have l8' : (List.replicate 8 q0).length = 8 := List.length_replicate
    have l5' : (List.replicate 5 q0).length = 5 := List.length_replicate
    have p8 : projB (.tuple ((List.replicate 8 q0).map frd)) = true := proj_of (by rw [l8']; decide) (by rw [l8']; decide)
    have p5 : projB (.tuple ((List.replicate 5 q0).map frd)) = true := proj_of (by rw [l5']; decide) (by rw [l5']; decide)
    have p4 : projB (.tuple ((List.replicate 4 q0).map frd)) = true := proj_of (by rw [List.length_replicate]; decide) (by rw [List.length_replicate]; decide)
    have huG2 := Dq.ex e2 _ _ huG
    have ht2 := htG.ex e2
    refine n_seq ?_
    have y12 : yardB (.tuple [frd s', .tuple [.tuple ((List.replicate 8 q0).map frd), .tuple (((List.replicate 5 q0).map frd).take 4)]]) = true := by
      rw [← List.map_take, List.take_replicate]
      exact yard_t hs (by show 1 ≤ 2; decide) (by show 2 ≤ 3; decide) (by show (_ && (_ && true)) = true; rw [p8, Bool.true_and, Bool.and_true]; exact p4) (by simp [lenD])
    refine s_sameP (K := K) (p := p) (t2 (ed_var (i := 1) rfl huG2) (t2 (ed_var (i := 7) rfl q8) (ed_slHi (σ := [some (.ref p), some u, some v, some y, some f, y5, y6, some x8, some x5, none]) (i := 8) (n := 4) rfl q5 ev_c))) ht2 y12 fun G5 X5 t5 => ?_
    dsimp only
    refine n_seq ?_
    have y13 : yardB (.tuple [frd s', .tuple [.tuple ((List.replicate 8 q0).map frd), .tuple ((List.replicate 5 q0).map frd)]]) = false := yard_sum (by simp [lenD])
    refine s_sameP (K := K) (p := p) (t2 (ed_var (σ := [some (.ref p), some u, some v, some y, some f, y5, y6, some x8, some x5, none]) (i := 1) rfl (Dq.xt X5 _ _ huG2)) (t2 (ed_var (i := 7) rfl (Dq.xt X5 _ _ q8)) (ed_var (i := 8) rfl (Dq.xt X5 _ _ q5)))) t5 y13 fun G8 X58 t8 => ?_
    dsimp only
    have X8 : ExT G G8 := ((Ex.t e2).trans X5).trans X58
    have hp8 := hpG.xt X8
    have hv8 := Dq.xt X8 _ _ hvG
    have lo8 := Dq.xt X8 _ _ loG
    have EB8 := EBG.trans (ExT.bt X8)
    clear q8 q5 huG2 X5 X8
    refine n_seq ?_
    obtain ⟨x9, hx9⟩ := hp8.hasP
    have nw : Nc 900000 60 (wrong "BadShare" lo) := (nc_tup (nca_cons ((nc_lst (nca_cons (nc_str (x := "BadShare") (c := 20) (by decide +kernel)) (nca_nil (e := 0)))).mono (Nat.le_refl _) (by decide : _ ≤ 3)) (nca_cons lnc nca_nil))).mono (by decide) (by decide)
    refine ⟨2, rfl, by decide, by decide, ?_⟩
    refine for_range (lo := 0) (n := 2) (fun i σ G' => (∃ y9, σ = [some (.ref p), some u, some v, some y, some f, y5, y6, some x8, some x5, y9]) ∧ ExT G8 G' ∧ TBs [T.P_is_project, T.P_is_yard] G') ⟨⟨none, rfl⟩, ExT.refl _, t8⟩ ?_ ?_
    · rintro i σ G9 hi ⟨⟨y9, rfl⟩, e9, t9⟩
      refine n_name ?_
      dsimp only
      refine n_seq ?_
      refine ⟨_, rfl, _, rfl, _, rfl, p, _, y, v, lo, _, x9, rfl, e9.l hx9, Dq.xt e9 _ _ lo8, Dq.xt e9 _ _ hv8, t9, .inl ⟨lno, fun x G10 e10 t10 qx => ?_⟩⟩
      have X10 := e9.trans e10
      refine (ed_tup (K := K) (p := p) (eds_cons (ed_lst (X10.l hx9) (eds_cons ed_str eds_nil) (by show 1 ≤ 1000; decide)) (eds_cons (ed_var rfl (Dq.xt X10 _ _ lo8)) eds_nil)) (by show 2 ≤ 1000; decide)) G10 (Ex.refl _) _ fun z G11 e11 qz => ?_
      refine ⟨p, x, z, _, _, rfl, Dq.ex e11 _ _ qx, qz, nw, nw, fun G12 e12 => ⟨_, rfl, ifF (by rw [decide_eq_true (show (wrong "BadShare" lo).shown = (PyData.tuple [PyData.list [PyData.str (Str.ofString "BadShare")], lo]).shown from rfl)]; rfl) ?_⟩⟩
      refine n_next ?_
      have X12 := X10.trans (Ex.t (e11.trans e12))
      have t12 := t10.ex (e11.trans e12)
      refine ⟨_, rfl, _, rfl, p, _, y, .non, lo, .none, x9, rfl, X12.l hx9, Dq.xt X12 _ _ lo8, .non, t12, .inl ⟨lno, fun x2 G13 e13 t13 qx2 => ?_⟩⟩
      have X13 := X12.trans e13
      refine (ed_tup (K := K) (p := p) (eds_cons (ed_lst (X13.l hx9) (eds_cons ed_str eds_nil) (by show 1 ≤ 1000; decide)) (eds_cons (ed_var rfl (Dq.xt X13 _ _ lo8)) eds_nil)) (by show 2 ≤ 1000; decide)) G13 (Ex.refl _) _ fun z2 G14 e14 qz2 => ?_
      refine ⟨p, x2, z2, _, _, rfl, Dq.ex e14 _ _ qx2, qz2, nw, nw, fun G15 e15 => ⟨_, rfl, ifF (by rw [decide_eq_true (show (wrong "BadShare" lo).shown = (PyData.tuple [PyData.list [PyData.str (Str.ofString "BadShare")], lo]).shown from rfl)]; rfl) ?_⟩⟩
      refine n_next ?_
      exact ⟨⟨_, rfl⟩, X13.trans (Ex.t (e14.trans e15)), t13.ex (e14.trans e15)⟩
    · rintro σ G9 ⟨⟨y9, rfl⟩, e9, t9⟩
      exact k G9 (EB8.trans (ExT.bt e9)) ((hp8.xt e9).mono (by omega)) t9
end
/-! ### the law k62 -/
theorem fall_lt {s b b' : Rat} {ps : List Rat} {L L' : Nat} (s0 : 0 < s) (t : Top (wgs s ps) b L) (t' : Top (wgs s (ps.drop L)) b' L') : b' < b := by
  have o := t.one
  have o' := t'.one
  have l := t.le
  have l' := t'.le
  rw [wgs_len] at l
  rw [wgs_len, List.length_drop] at l'
  have ha : wageQ s (ps.take L) = b := by
    have h := t.at_
    rw [wgs_at (by omega), show L - 1 + 1 = L by omega] at h
    exact Option.some.inj h
  have hb : wageQ s ((ps.drop L).take L') = b' := by
    have h := t'.at_
    rw [wgs_at (by rw [List.length_drop]; omega), show L' - 1 + 1 = L' by omega] at h
    exact Option.some.inj h
  have hc := wgs_at (s := s) (ps := ps) (i := L + L' - 1) (by omega)
  rw [show L + L' - 1 + 1 = L + L' by omega] at hc
  have m := t.most _ _ hc
  have n := t.last _ _ (by omega) hc
  have e : ps.take (L + L') = ps.take L ++ (ps.drop L).take L' := List.take_add
  have la : (ps.take L).length = L := by rw [List.length_take]; omega
  have A := paid_app s (ps.take L) ((ps.drop L).take L')
  have B := paid_app s ((ps.take L).map fun _ => 1) (((ps.drop L).take L').map fun _ => 1)
  rw [la] at A
  rw [List.length_map, la] at B
  have na : ps.take L ≠ [] := fun z => by rw [z] at la; simp at la; omega
  have nb : (ps.drop L).take L' ≠ [] := fun z => by
    have := congrArg List.length z
    rw [List.length_take, List.length_drop] at this
    simp at this
    omega
  have pa := (ones_pos s0 (ps.take L)).2 na
  have pb := (ones_pos s0 ((ps.drop L).take L')).2 nb
  have pw : 0 < s ^ L := Rat.pow_pos s0
  unfold wageQ at ha hb m n
  rw [e, List.map_append, A, B] at m n
  generalize paidQ s (ps.take L) = x at *
  generalize paidQ s ((ps.drop L).take L') = y at *
  generalize paidQ s ((ps.take L).map fun _ => 1) = u at *
  generalize paidQ s (((ps.drop L).take L').map fun _ => 1) = v at *
  generalize s ^ L = w at *
  have hx : x = b * u := by rw [← ha]; rw [Rat.div_mul_cancel (by grind)]
  have hy : y = b' * v := by rw [← hb]; rw [Rat.div_mul_cancel (by grind)]
  have pv : 0 < w * v := Rat.mul_pos pw pb
  have pt : 0 < u + w * v := by grind
  have m1 : ¬ (b < (x + w * y) / (u + w * v)) := by grind
  rw [Rat.lt_div_iff pt] at m1
  have m2 : x + w * y ≠ b * (u + w * v) := fun z => n (by rw [z]; exact Rat.mul_div_cancel (by grind))
  have m3 : x + w * y < b * (u + w * v) := by grind
  by_cases c : b' < b
  · exact c
  · exfalso
    have c' : b * (w * v) ≤ b' * (w * v) := Rat.mul_le_mul_of_nonneg_right (by grind) (by grind)
    rw [hx, hy] at m3
    grind
theorem fall_mono {s : Rat} {ps r : List Rat} (s0 : 0 < s) (h : Fall s ps r) : ∀ (i : Nat) (x y : Rat), r[i]? = some x → r[i + 1]? = some y → ¬ x < y := by
  induction h with
  | nil => intro i x y h; simp at h
  | @step ps r b L t f ih =>
    intro i x y hx hy
    have o := t.one
    by_cases c1 : i + 1 < L
    · rw [List.getElem?_append_left (by rw [List.length_replicate]; omega), List.getElem?_replicate, if_pos (by omega)] at hx
      rw [List.getElem?_append_left (by rw [List.length_replicate]; omega), List.getElem?_replicate, if_pos c1] at hy
      cases hx
      cases hy
      grind
    · by_cases c2 : i < L
      · rw [List.getElem?_append_left (by rw [List.length_replicate]; omega), List.getElem?_replicate, if_pos c2] at hx
        rw [List.getElem?_append_right (by rw [List.length_replicate]; omega), List.length_replicate, show i + 1 - L = 0 by omega] at hy
        cases hx
        generalize hd : ps.drop L = pl at f
        cases f with
        | nil => simp at hy
        | @step _ r2 b2 L2 t2 f2 =>
          have o2 := t2.one
          rw [List.getElem?_append_left (by rw [List.length_replicate]; omega), List.getElem?_replicate, if_pos (by omega)] at hy
          cases hy
          rw [← hd] at t2
          have := fall_lt s0 t t2
          grind
      · rw [List.getElem?_append_right (by rw [List.length_replicate]; omega), List.length_replicate] at hx
        rw [List.getElem?_append_right (by rw [List.length_replicate]; omega), List.length_replicate, show i + 1 - L = (i - L) + 1 by omega] at hy
        exact ih (i - L) x y hx hy
theorem termP_nc {s : PyData} (hs : Nc 100 3 s) : ∀ ds : List PyData, (∀ d ∈ ds, Nc 100 3 d) → Nc (300 * ds.length + 30) (3 * ds.length + 6) (termP s ds)
  | [], _ => (nc_tup (nca_cons (nc_str (x := "end") (c := 5) (by decide +kernel)) (nca_nil (e := 0)))).mono (by simp) (by simp)
  | d :: ds, h => by
    have ih := termP_nc hs ds fun x hx => h x (List.mem_cons_of_mem _ hx)
    have hd := h d List.mem_cons_self
    rw [List.length_cons]
    exact (nc_tup (nca_cons ((nc_str (x := "step") (c := 6) (by decide +kernel)).mono (Nat.le_refl _) (Nat.zero_le _)) (nca_cons (hd.mono (Nat.le_refl _) (by omega)) (nca_cons (nc_tup (nca_cons (nc_tup (nca_cons (hs.mono (Nat.le_refl _) (show 3 ≤ 3 * ds.length + 6 by omega)) (nca_cons ih nca_nil))) nca_nil)) nca_nil)))).mono (by omega) (by omega)
theorem nsame {d e : PyData} (h : d = e) : (!decide (d.shown = e.shown)) = false := by
  subst h
  rw [decide_eq_true rfl]
  rfl
section
variable {P : Program} {w : World} {K : PySem.W.Frag} {mg : Str → Option Value} {base : Heap}
def spLaw (K : PySem.W.Frag) (Ts : List Addr) : Sp := fun vs H Q _ => ∃ (a : Addr) (ns : List Int), vs = [.ref a] ∧ SqL K H a (ns.map V.int) ∧ ns.length ≤ 63 ∧ (∀ t ∈ Ts, GxR.TabG H t) ∧ ∀ H', Q (.bl true) H'
theorem ok_law (T : Txt K mg) (tb_is_project : GxR.TabB base mg T.c_is_project T.P_is_project) (tb_is_yard : GxR.TabB base mg T.c_is_yard T.P_is_yard) : FnG P w K mg base 9 T.d_law.a T.d_law.fd ["_law_script"] (spLaw K [T.P_is_project, T.P_is_yard]) := by
  refine okG T.d_law.F sc_law (fun vs H Q E h => ?_) (fun cdv A outer s H vs Q gd hr h => ?_)
  · obtain ⟨a, ns, rfl, _⟩ := h
    rfl
  · obtain ⟨a, ns, rfl, hS, hl, ht, k⟩ := h
    have hu := hr.units
    refine ⟨_, (pss_cons (ps_set (i := 1) sc_law.nd rfl (Or.inl rfl) (pe_call (ok__law_open T) (hr.mono (by decide)) (by rfl) T.d__law_open.g T.d__law_open.F.kp T.d__law_open.b .nil pass0 (pa_cons (pv 0) pa_nil)))
      (pss_cons (ps_for PassesOwn.never rfl (pi_range1 (by rfl) T.n_range (pa_cons pe_int pa_nil)) (pg_name (i := 2) sc_law.nd rfl (Or.inl rfl)) (pss_cons (ps_set (i := 3) sc_law.nd rfl (Or.inl rfl) (pe_call (ok__law_share T) (hr.mono (by decide)) (by rfl) T.d__law_share.g T.d__law_share.F.kp T.d__law_share.b .nil pass0 (pa_cons (pe_call (ok__law_anew T) (hr.mono (by decide)) (by rfl) T.d__law_anew.g T.d__law_anew.F.kp T.d__law_anew.b .nil pass0 (pa_cons (pv 1) pa_nil)) pa_nil)))
      (pss_cons (ps_set (i := 4) sc_law.nd rfl (Or.inl rfl) (pe_call (ok__law_project T) (hr.mono (by decide)) (by rfl) T.d__law_project.g T.d__law_project.F.kp T.d__law_project.b .nil pass0 (pa_cons (pv 1) (pa_cons (pe_op op_add pe_int (pe_call (ok__law_take T) (hr.mono (by decide)) (by rfl) T.d__law_take.g T.d__law_take.F.kp T.d__law_take.b .nil pass0 (pa_cons (pv 1) (pa_cons pe_int pa_nil)))) pa_nil))))
      (pss_cons (ps_if (pt_not (pt_val (pe_callG (ok__law_same T) gd (hr.mono (by decide)) (by rfl) T.d__law_same.g T.d__law_same.F.kp T.d__law_same.b (pa_cons (pe_call (ok_is_project T tb_is_project) (hr.mono (by decide)) (by rfl) T.d_is_project.g T.d_is_project.F.kp T.d_is_project.b .nil pass0 (pa_cons (pv 4) pa_nil)) (pa_cons pe_bl pa_nil))))) (pss_one (ps_ret pe_bl)) pss_nil)
      (pss_cons (ps_for PassesOwn.never rfl (pi_list (pe_lstN (pa_cons (pe_tup (pa_cons pe_int (pa_cons (pe_call (ok__law_project_term T) (hr.mono (by decide)) (by rfl) T.d__law_project_term.g T.d__law_project_term.F.kp T.d__law_project_term.b .nil pass0 (pa_cons (pv 3) (pa_cons (pv 4) pa_nil))) pa_nil))) (pa_cons (pe_tup (pa_cons pe_int (pa_cons (pe_call (ok__law_falling T) (hr.mono (by decide)) (by rfl) T.d__law_falling.g T.d__law_falling.F.kp T.d__law_falling.b .nil pass0 (pa_cons (pv 3) (pa_cons (pv 4) pa_nil))) pa_nil))) pa_nil)))) (pg_tup (by rfl) (pgs_cons (pg_name (i := 5) sc_law.nd rfl (Or.inl rfl)) (pgs_cons (pg_name (i := 6) sc_law.nd rfl (Or.inl rfl)) pgs_nil))) (pss_one (ps_if (pt_not (pt_val (pe_callG (ok__law_same T) gd (hr.mono (by decide)) (by rfl) T.d__law_same.g T.d__law_same.F.kp T.d__law_same.b (pa_cons (pe_call (ok__law_told T tb_is_project) (hr.mono (by decide)) (by rfl) T.d__law_told.g T.d__law_told.F.kp T.d__law_told.b .nil pass0 (pa_cons (pv 5) (pa_cons (pv 3) (pa_cons (pv 4) pa_nil)))) (pa_cons (pe_tup (pa_cons pe_str (pa_cons (pv 6) pa_nil))) pa_nil))))) (pss_one (ps_ret pe_bl)) pss_nil)))
      (pss_cons (ps_set (i := 7) sc_law.nd rfl (Or.inl rfl) (pe_call (E := E0) (ok_falling T tb_is_project) (hr.mono (by decide)) (by rfl) T.d_falling.g T.d_falling.F.kp T.d_falling.b .nil (passes_call takes_none5 fun _ _ _ _ h => h) (pa_cons (pv 3) (pa_cons (pv 4) pa_nil))))
      (pss_cons (ps_for PassesOwn.never rfl (pi_range2 (by rfl) T.n_range (pa_cons pe_int (pa_cons (pe_callB call_len_seq (by rfl) T.n_len (by decide +kernel) (pa_cons (pv 7) pa_nil)) pa_nil))) (pg_name (i := 8) sc_law.nd rfl (Or.inl rfl)) (pss_one (ps_if (pt_val (pe_call (ok__law_is_less T) (hr.mono (by decide)) (by rfl) T.d__law_is_less.g T.d__law_is_less.F.kp T.d__law_is_less.b .nil pass0 (pa_cons (pe_ix ix_list (pv 7) (pe_op op_sub (pv 8) pe_int) (fun _ _ => rfl)) (pa_cons (pe_ix ix_list (pv 7) (pv 8) (fun _ _ => rfl)) pa_nil)))) (pss_one (ps_ret pe_bl)) pss_nil)))
      (pss_cons (ps_set (i := 9) sc_law.nd rfl (Or.inl rfl) (pe_call (ok__law_bent T) (hr.mono (by decide)) (by rfl) T.d__law_bent.g T.d__law_bent.F.kp T.d__law_bent.b .nil pass0 (pa_cons (pv 1) (pa_cons (pv 4) pa_nil))))
      (pss_cons (ps_if (PW.pt (pw_or (pt_not (pt_val (pe_callG (ok__law_same T) gd (hr.mono (by decide)) (by rfl) T.d__law_same.g T.d__law_same.F.kp T.d__law_same.b (pa_cons (pe_call (ok_is_project T tb_is_project) (hr.mono (by decide)) (by rfl) T.d_is_project.g T.d_is_project.F.kp T.d_is_project.b .nil pass0 (pa_cons (pv 9) pa_nil)) (pa_cons pe_bl pa_nil))))) (pw_or1 (pt_not (pt_val (pe_callG (ok__law_yards T tb_is_project tb_is_yard) gd (hr.mono (by decide)) (by rfl) T.d__law_yards.g T.d__law_yards.F.kp T.d__law_yards.b (pa_cons (pv 1) (pa_cons (pv 3) (pa_cons (pv 4) pa_nil))))))))) (pss_one (ps_ret pe_bl)) pss_nil)
      (pss_one (ps_for PassesOwn.never rfl (pi_range1 (by rfl) T.n_range (pa_cons pe_int pa_nil)) (pg_name (i := 5) sc_law.nd rfl (Or.inl rfl)) (pss_one (ps_if (pt_not (pt_val (pe_callG (ok__law_same T) gd (hr.mono (by decide)) (by rfl) T.d__law_same.g T.d__law_same.F.kp T.d__law_same.b (pa_cons (pe_call (ok__law_told T tb_is_project) (hr.mono (by decide)) (by rfl) T.d__law_told.g T.d__law_told.F.kp T.d__law_told.b .nil pass0 (pa_cons (pv 5) (pa_cons (pv 3) (pa_cons (pv 9) pa_nil)))) (pa_cons (pe_tup (pa_cons (pe_lstN (pa_cons pe_str pa_nil)) (pa_cons (pv 9) pa_nil))) pa_nil))))) (pss_one (ps_ret pe_bl)) pss_nil)))))))))))))
      (pss_one (ps_ret pe_bl)))), ?_⟩
    refine n_seq ?_
    refine ⟨.ref a, rfl, a, ns, rfl, hS, hl, fun p c H1 ex1 hp nf => ?_⟩
    dsimp only
    refine n_seq ?_
    refine ⟨4, rfl, by decide, by decide, ?_⟩
    refine for_range (lo := 0) (n := 4) (fun i σ G => (∃ y2 y3 y4 y5 y6 y7 y8 y9, σ = [some (.ref a), some (.ref p), y2, y3, y4, y5, y6, y7, y8, y9]) ∧ Pen G p c (60 * i) ∧ TBs [T.P_is_project, T.P_is_yard] G) ⟨⟨none, none, none, none, none, none, none, none, rfl⟩, hp, TBs.ex ht ex1⟩ ?_ ?_
    · rintro i σ G hi ⟨⟨y2, y3, y4, y5, y6, y7, y8, y9, rfl⟩, hp0, ht0⟩
      refine n_name ?_
      dsimp only
      obtain ⟨x0, hx0⟩ := hp0.hasP
      refine n_seq ?_
      refine ⟨.ref p, rfl, p, c, _, rfl, hp0, fun G1 eb1 hp1 => ⟨p, c, _, rfl, hp1, by omega, fun u s G2 eb2 hp2 fs hs => ?_⟩⟩
      have ht2 := TBs.upd (ys := []) ht0 hx0 (eb1.trans eb2)
      have s0 := prpB_pos hs
      dsimp only
      refine n_seq ?_
      obtain ⟨x2, hx2⟩ := hp2.hasP
      refine ⟨.ref p, rfl, .ref p, rfl, p, c, 8, _, rfl, hp2, by decide, by decide, by omega, fun r G3 r0 r8 eb3 hp3 => ⟨1, r, rfl, rfl, ?_⟩⟩
      obtain ⟨m, rfl⟩ : ∃ m : Nat, r = (m : Int) := ⟨r.toNat, by omega⟩
      refine ⟨p, c, 1 + m, _, by rw [show ((1 + m : Nat) : Int) = 1 + (m : Int) by omega]; rfl, hp3, by omega, by omega, fun v qs G4 eb4 hp4 qv bq ql => ?_⟩
      have l1 : 1 ≤ qs.length := by omega
      have l8 : qs.length ≤ 8 := by omega
      have fs4 := fs.lst hx2 (eb3.trans eb4)
      have ht4 := TBs.upd (ys := []) ht2 hx2 (eb3.trans eb4)
      have bs := fs.bd
      have hu4 : Dq K p G4 u (frd s) := fs4.dq
      have pj := proj_of (qs := qs) l1 l8
      dsimp only
      refine n_seq ?_
      refine s_sameP (K := K) (p := p) (ed_var rfl qv) ht4 pj fun G5 X5 t5 => ?_
      dsimp only
      refine n_seq ?_
      have hp5 := hp4.xt X5
      have hu5 := Dq.xt X5 _ _ hu4
      have hv5 := Dq.xt X5 _ _ qv
      have fs5 := fs4.xt X5
      clear hp4 hu4 qv fs4 ht4 X5 fs ht2 eb4 eb3 hp3 hp2 eb2 eb1 hp1 ht0 hp0
      obtain ⟨x5, hx5⟩ := hp5.hasP
      have nT : Nc 900000 60 (fine (termP (frd s) (qs.map frd))) := by
        have h1 := termP_nc (nc_f10 bs) (qs.map frd) fun d hd => by
          obtain ⟨q, hq, rfl⟩ := List.mem_map.mp hd
          exact nc_f10 (bq q hq)
        rw [List.length_map] at h1
        exact (nc_tup (nca_cons ((nc_str (x := "fine") (c := 6) (by decide +kernel)).mono (Nat.le_refl _) (Nat.zero_le _)) (nca_cons h1 (nca_nil (e := 3 * qs.length + 6))))).mono (by omega) (by omega)
      have nF : ∀ r : List Rat, (∀ q ∈ r, Bd 401 q) → r.length ≤ 8 → Nc 900000 60 (fine (.list (r.map frd))) := fun r hb hl => by
        have h1 : NcA ((r.map frd).length * (1000 + 2)) 3 (r.map frd) := nca_of fun d hd => by
          obtain ⟨q, hq, rfl⟩ := List.mem_map.mp hd
          exact (nc_pair (hb q hq).1 (bd_den (hb q hq)) (by decide) (by decide)).mono (by decide) (by decide)
        rw [List.length_map] at h1
        exact (nc_tup (nca_cons ((nc_str (x := "fine") (c := 6) (by decide +kernel)).mono (Nat.le_refl _) (Nat.zero_le _)) (nca_cons (nc_lst h1) (nca_nil (e := 4))))).mono (by omega) (by decide)
      refine (show iList K (tLstN (tCons _ _)) _ G5 _ from ?_)
      refine (show tLstN (tCons _ _) _ G5 _ from ?_)
      refine (show tCons _ _ _ G5 _ from ?_)
      have tmL : ∀ {σ : L2.St} {E : XK}, σ[3]? = some (some u) → σ[4]? = some (some v) → EvD K p (tCall (spTermL K) [] E (tCons (tVar 3) (tCons (tVar 4) tNil))) σ G5 (termP (frd s) (qs.map frd)) := fun h3 h4 H1 e1 Q' k' => ⟨_, h3, _, h4, p, u, v, _, _, rfl, Dq.ex e1 _ _ hu5, Dq.ex e1 _ _ hv5, by rw [List.length_map]; exact l8, fun x H2 e2 q => k' x H2 e2 q⟩
      refine (ed_tup (K := K) (p := p) (eds_cons ed_int (eds_cons (tmL rfl rfl) eds_nil)) (by show 2 ≤ 1000; decide)) G5 (Ex.refl _) _ fun w1 G6 e6 q6 => ?_
      have hx6 := e6 _ _ hx5
      have fs6 := fs5.ex e6
      have hv6 := Dq.ex e6 _ _ hv5
      refine ⟨_, rfl, _, rfl, p, u, v, x5, s, qs, rfl, hx6, fs6, s0, hv6, bq, l8, fun l zs r G7 e7 lp lm hl dr hf => ⟨by show 2 ≤ sizeLine; decide, fun t7 f7 => ?_⟩⟩
      have x7 := Ex.new (o := .tup [.int 1, .ref l]) f7
      have q7 : Dq K p (upd G7 t7 (.tup [.int 1, .ref l])) (.ref t7) (.tuple [.int 1, .list (r.map frd)]) := .tup (SqT.of upd_same) (.cons (.int 1) (.cons (.lst lp lm (x7 _ _ hl) (DqAll.ex x7 _ _ dr)) .nil))
      have E7 := e6.trans (e7.trans x7)
      have q67 := Dq.ex (e7.trans x7) _ _ q6
      refine ⟨by show 2 ≤ sizeLine; decide, fun L fL _ => ?_⟩
      have x8 := Ex.new (o := .lst [w1, .ref t7]) fL
      have E8 := E7.trans x8
      have q8 := Dq.ex x8 _ _ q7
      have q68 := Dq.ex x8 _ _ q67
      have hL : (upd (upd G7 t7 (.tup [.int 1, .ref l])) L (.lst [w1, .ref t7])) L = some (.lst [w1, .ref t7]) := upd_same
      generalize upd (upd G7 t7 (.tup [.int 1, .ref l])) L (.lst [w1, .ref t7]) = H8 at E8 q8 q68 hL
      clear x8 fL E7 q67 q7 x7 f7 lp lm hl dr e7 hv6 fs6 q6 e6 tmL
      have hx8 := E8 _ _ hx5
      have hu8 := Dq.ex E8 _ _ hu5
      have hv8 := Dq.ex E8 _ _ hv5
      have hp8 := hp5.ex E8
      have t8 := t5.ex E8
      have rl : r.length = qs.length := hf.len
      refine ⟨L, rfl, ⟨_, SqL.of hL⟩, ?_⟩
      refine for_list (K := K) (a := L) (xs := [w1, .ref t7]) (fun j σ G => ∃ y5 y6, σ = [some (.ref a), some (.ref p), some (.int (0 + (i : Nat))), some u, some v, y5, y6, y7, y8, y9] ∧ ExT H8 G ∧ TBs [T.P_is_project, T.P_is_yard] G) ⟨_, _, rfl, ExT.refl _, t8⟩ (fun j σ G _ h => by
        obtain ⟨_, _, _, e, _⟩ := h
        exact SqL.of (e.l hL)) ?_ ?_
      · rintro j x σ G hx ⟨y5, y6, rfl, e, tG⟩
        have huG := Dq.xt e _ _ hu8
        have hvG := Dq.xt e _ _ hv8
        have hxG := e.l hx8
        match j, hx with
        | 0, hx =>
          cases hx
          obtain ⟨d, ws, rfl, hS, hA⟩ := (Dq.xt e _ _ q68).seq
          cases hA with
          | cons q1 hA =>
          cases hA with
          | @cons z _ _ _ q2 hA =>
          cases hA
          cases q1
          refine ⟨d, [.int 0, z], rfl, hS, rfl, _, _, rfl, _, _, rfl, rfl, ?_⟩
          dsimp only
          refine ⟨_, rfl, _, rfl, _, rfl, p, 0, u, v, _, _, x5, rfl, hxG, huG, hvG, tG, .inr (.inr ⟨s, qs, hs, pj, rfl, bs, rfl, bq, .inl ⟨rfl, fun x G2 e2 t2 qx => ?_⟩⟩)⟩
          refine (ed_tup (K := K) (p := p) (eds_cons ed_str (eds_cons (ed_var rfl (Dq.xt e2 _ _ q2)) eds_nil)) (by show 2 ≤ 1000; decide)) G2 (Ex.refl _) _ fun y G3 e3 qy => ?_
          refine ⟨p, x, y, _, _, rfl, Dq.ex e3 _ _ qx, qy, nT, nT, fun G4 e4 => ⟨_, rfl, ifF (nsame rfl) ?_⟩⟩
          refine n_next ?_
          exact ⟨_, _, rfl, (e.trans e2).trans (Ex.t (e3.trans e4)), t2.ex (e3.trans e4)⟩
        | 1, hx =>
          cases hx
          obtain ⟨d, ws, he, hS, hA⟩ := (Dq.xt e _ _ q8).seq
          cases hA with
          | cons q1 hA =>
          cases hA with
          | @cons z _ _ _ q2 hA =>
          cases hA
          cases q1
          refine ⟨d, [.int 1, z], he, hS, rfl, _, _, rfl, _, _, rfl, rfl, ?_⟩
          dsimp only
          refine ⟨_, rfl, _, rfl, _, rfl, p, 1, u, v, _, _, x5, rfl, hxG, huG, hvG, tG, .inr (.inr ⟨s, qs, hs, pj, rfl, bs, rfl, bq, .inr ⟨rfl, fun r2 x G2 e2 t2 qx hf2 hb2 => ?_⟩⟩)⟩
          have e12 := hf2.uniq hf
          subst e12
          have nR := nF r2 hb2 (by omega)
          refine (ed_tup (K := K) (p := p) (eds_cons ed_str (eds_cons (ed_var rfl (Dq.xt e2 _ _ q2)) eds_nil)) (by show 2 ≤ 1000; decide)) G2 (Ex.refl _) _ fun y G3 e3 qy => ?_
          refine ⟨p, x, y, _, _, rfl, Dq.ex e3 _ _ qx, qy, nR, nR, fun G4 e4 => ⟨_, rfl, ifF (nsame rfl) ?_⟩⟩
          refine n_next ?_
          exact ⟨_, _, rfl, (e.trans e2).trans (Ex.t (e3.trans e4)), t2.ex (e3.trans e4)⟩
        | n + 2, hx => cases hx
      rintro σ G ⟨y5, y6, rfl, e, tG⟩
      have hpG := hp8.xt e
      have huG := Dq.xt e _ _ hu8
      have hvG := Dq.xt e _ _ hv8
      clear e hx8 hu8 hv8 hp8 t8 hL q8 q68 E8 hx5 hp5 t5 fs5
      obtain ⟨xG, hxG⟩ := hpG.hasP
      dsimp only
      refine n_seq ?_
      refine ⟨_, rfl, _, rfl, p, u, v, _, _, rfl, huG, hvG, tG, .inr (.inr ⟨s, qs, hs, pj, rfl, bs, rfl, bq, fun l zs r2 G1 e1 t1 nl nm hl dl hf2 hb2 => ?_⟩)⟩
      have e12 := hf2.uniq hf
      subst e12
      have zl : zs.length = qs.length := by rw [dl.len, List.length_map, rl]
      have hp1 := hpG.xt e1
      have hu1 := Dq.xt e1 _ _ huG
      have hv1 := Dq.xt e1 _ _ hvG
      dsimp only
      refine n_seq ?_
      refine ⟨_, rfl, l, zs, rfl, .inl (SqL.of hl), 1, _, rfl, ⟨by decide, by decide, by omega, by omega⟩, ?_⟩
      rw [show ((zs.length : Int) - 1).toNat = zs.length - 1 by omega]
      refine for_range (lo := 1) (n := zs.length - 1) (fun j σ G => ∃ y8, σ = [some (.ref a), some (.ref p), some (.int (0 + (i : Nat))), some u, some v, y5, y6, some (.ref l), y8, y9] ∧ Ex G1 G) ⟨_, rfl, Ex.refl _⟩ ?_ ?_
      · rintro j σ G hj ⟨y8, rfl, ex⟩
        refine n_name ?_
        dsimp only
        have hzl := (dl.len.symm ▸ zl : zs.length = qs.length)
        obtain ⟨z1, hz1⟩ : ∃ z, zs[j]? = some z := ⟨_, List.getElem?_eq_getElem (by omega)⟩
        obtain ⟨z2, hz2⟩ : ∃ z, zs[j + 1]? = some z := ⟨_, List.getElem?_eq_getElem (by omega)⟩
        have dj := DqAll.ex ex _ _ dl
        obtain ⟨w1', hw1, f1⟩ := dj.fr_at hb2 hz1
        obtain ⟨w2', hw2, f2⟩ := dj.fr_at hb2 hz2
        refine ⟨_, rfl, _, rfl, _, _, rfl, rfl, l, zs, _, z1, rfl, rfl, SqL.of (ex _ _ hl), by rw [show 1 + (j : Int) - 1 = ((j : Nat) : Int) by omega]; exact atI_nat hz1, ?_⟩
        refine ⟨_, rfl, _, rfl, l, zs, _, z2, rfl, rfl, SqL.of (ex _ _ hl), by rw [show 1 + (j : Int) = ((j + 1 : Nat) : Int) by omega]; exact atI_nat hz2, ?_⟩
        refine ⟨z1, z2, 401, 401, w1', w2', rfl, f1, f2, by decide, fun G3 e3 => ⟨_, rfl, ifF (decide_eq_false (fall_mono s0 hf j w1' w2' hw1 hw2)) ?_⟩⟩
        refine n_next ?_
        exact ⟨_, rfl, ex.trans e3⟩
      rintro σ G2 ⟨y8, rfl, ex2⟩
      have hp2 := hp1.ex ex2
      have hu2 := Dq.ex ex2 _ _ hu1
      have hv2 := Dq.ex ex2 _ _ hv1
      have t2 := t1.ex ex2
      dsimp only
      refine n_seq ?_
      refine ⟨_, rfl, _, rfl, p, c, v, qs, _, rfl, hp2, by omega, hv2, bq, l1, l8, fun z d G3 eb3 hp3 qz nd ncd => ?_⟩
      obtain ⟨x2', hx2'⟩ := hp2.hasP
      have t3 := TBs.upd (ys := []) t2 hx2' eb3
      have hu3 := Dq.exb hx2' eb3 _ _ hu2
      have hv3 := Dq.exb hx2' eb3 _ _ hv2
      dsimp only
      refine n_seq ?_
      refine ⟨_, rfl, p, z, d, rfl, qz, t3, fun G4 X4 t4 => ?_⟩
      refine ⟨p, _, _, .bool (projB d), .bool false, rfl, .bl _, .bl _, nbool _, nbool _, fun G5 e5 => ⟨_, rfl, ifF (by rw [nd]; exact nsame rfl) ?_⟩⟩
      have hp5 := (hp3.xt X4).ex e5
      have X5 := X4.trans (Ex.t e5)
      refine ⟨_, rfl, _, rfl, _, rfl, p, c, u, v, s, qs, _, rfl, hp5, by omega, t4.ex e5, Dq.xt X5 _ _ hu3, hs, bs, Dq.xt X5 _ _ hv3, bq, l1, l8, fun G6 eb6 hp6 t6 => ⟨_, rfl, ifF rfl ?_⟩⟩
      refine n_next ?_
      dsimp only
      have X6 : ExBT p G3 G6 := (ExT.bt X5).trans eb6
      obtain ⟨x3, hx3⟩ := hp3.hasP
      have hu6 := Dq.bt hx3 X6 _ _ hu3
      have qz6 := Dq.bt hx3 X6 _ _ qz
      obtain ⟨x6, hx6⟩ := hp6.hasP
      have nw : Nc 900000 60 (wrong "BadProject" d) := (nc_tup (nca_cons ((nc_lst (nca_cons (nc_str (x := "BadProject") (c := 20) (by decide +kernel)) (nca_nil (e := 0)))).mono (Nat.le_refl _) (by decide : _ ≤ 10)) (nca_cons ncd nca_nil))).mono (by decide) (by decide)
      refine ⟨2, rfl, by decide, by decide, ?_⟩
      refine for_range (lo := 0) (n := 2) (fun j σ G => ∃ y5', σ = [some (.ref a), some (.ref p), some (.int (0 + (i : Nat))), some u, some v, y5', y6, some (.ref l), y8, some z] ∧ ExT G6 G ∧ TBs [T.P_is_project, T.P_is_yard] G) ⟨_, rfl, ExT.refl _, t6⟩ ?_ ?_
      · rintro j σ G hj ⟨y5', rfl, e, tG⟩
        refine n_name ?_
        dsimp only
        refine ⟨_, rfl, _, rfl, _, rfl, p, _, u, z, _, d, x6, rfl, e.l hx6, Dq.xt e _ _ hu6, Dq.xt e _ _ qz6, tG, .inr (.inl ⟨hs, nd, fun x G7 e7 t7 qx => ?_⟩)⟩
        have X7 := e.trans e7
        refine (ed_tup (K := K) (p := p) (eds_cons (ed_lst (X7.l hx6) (eds_cons ed_str eds_nil) (by show 1 ≤ 1000; decide)) (eds_cons (ed_var rfl (Dq.xt X7 _ _ qz6)) eds_nil)) (by show 2 ≤ 1000; decide)) G7 (Ex.refl _) _ fun y G8 e8 qy => ?_
        refine ⟨p, x, y, _, _, rfl, Dq.ex e8 _ _ qx, qy, nw, nw, fun G9 e9 => ⟨_, rfl, ifF (nsame rfl) ?_⟩⟩
        refine n_next ?_
        exact ⟨_, rfl, X7.trans (Ex.t (e8.trans e9)), t7.ex (e8.trans e9)⟩
      · rintro σ G ⟨y5', rfl, e, tG⟩
        exact ⟨⟨_, _, _, _, _, _, _, _, rfl⟩, (hp6.xt e).mono (by omega), tG⟩
    · rintro σ G _
      exact k G
end
def CodeK (oc : Value) (vs : Array Value) (c P : Addr) : Prop := ∃ (file : Str) (tf : Tok) (flags : Int) (tg : Tok) (inF : Bool) (text : Int) (tt : Tok), oc = .type "code" ∧ vs.getD 11 .none = .ref P ∧ vs.getD 18 .none = .str file tf ∧
  vs.getD 7 .none = .int flags tg ∧ vs.getD 9 .none = .bool inF ∧ vs.getD 10 .none = .int text tt ∧ c ≠ P
theorem all_mk {l : PySem.W.OpenLaw} {w : World} {K : PySem.W.Frag} {h : Heap} {mg : Str → Option Value} {fa : Addr} (X : K.In h) (G : h.Ns mainGlobals mg) (hfa : mg "law" = some (.ref fa)) (hE : ∀ y ∈ (["is_project", "is_yard"] : List Str), TabE K y mg h)
    {od1 an1 : Option Addr} {sl1 : Array (Option Value)} {oc1 kV1 dc1 pm1 cd1 ct1 : Value} {f1 : Addr}
    {od2 an2 : Option Addr} {sl2 : Array (Option Value)} {oc2 kV2 dc2 pm2 cd2 ct2 : Value} {f2 : Addr}
    {od3 an3 : Option Addr} {sl3 : Array (Option Value)} {oc3 kV3 dc3 pm3 cd3 ct3 : Value} {f3 : Addr}
    {od4 an4 : Option Addr} {sl4 : Array (Option Value)} {oc4 kV4 dc4 pm4 cd4 ct4 : Value} {f4 : Addr}
    {od5 an5 : Option Addr} {sl5 : Array (Option Value)} {oc5 kV5 dc5 pm5 cd5 ct5 : Value} {f5 : Addr}
    {od6 an6 : Option Addr} {sl6 : Array (Option Value)} {oc6 kV6 dc6 pm6 cd6 ct6 : Value} {f6 : Addr}
    {od7 an7 : Option Addr} {sl7 : Array (Option Value)} {oc7 kV7 dc7 pm7 cd7 ct7 : Value} {f7 : Addr}
    {od8 an8 : Option Addr} {sl8 : Array (Option Value)} {oc8 kV8 dc8 pm8 cd8 ct8 : Value} {f8 : Addr}
    {od9 an9 : Option Addr} {sl9 : Array (Option Value)} {oc9 kV9 dc9 pm9 cd9 ct9 : Value} {f9 : Addr}
    {od10 an10 : Option Addr} {sl10 : Array (Option Value)} {oc10 kV10 dc10 pm10 cd10 ct10 : Value} {f10 : Addr}
    {od11 an11 : Option Addr} {sl11 : Array (Option Value)} {oc11 kV11 dc11 pm11 cd11 ct11 : Value} {f11 : Addr}
    {od12 an12 : Option Addr} {sl12 : Array (Option Value)} {oc12 kV12 dc12 pm12 cd12 ct12 : Value} {f12 : Addr}
    {od13 an13 : Option Addr} {sl13 : Array (Option Value)} {oc13 kV13 dc13 pm13 cd13 ct13 : Value} {f13 : Addr}
    {od14 an14 : Option Addr} {sl14 : Array (Option Value)} {oc14 kV14 dc14 pm14 cd14 ct14 : Value} {f14 : Addr}
    {od15 an15 : Option Addr} {sl15 : Array (Option Value)} {oc15 kV15 dc15 pm15 cd15 ct15 : Value} {f15 : Addr}
    {od16 an16 : Option Addr} {sl16 : Array (Option Value)} {oc16 kV16 dc16 pm16 cd16 ct16 : Value} {f16 : Addr}
    {od17 an17 : Option Addr} {sl17 : Array (Option Value)} {oc17 kV17 dc17 pm17 cd17 ct17 : Value} {f17 : Addr}
    {od18 an18 : Option Addr} {sl18 : Array (Option Value)} {oc18 kV18 dc18 pm18 cd18 ct18 : Value} {f18 : Addr}
    {od19 an19 : Option Addr} {sl19 : Array (Option Value)} {oc19 kV19 dc19 pm19 cd19 ct19 : Value} {f19 : Addr}
    {od20 an20 : Option Addr} {sl20 : Array (Option Value)} {oc20 kV20 dc20 pm20 cd20 ct20 : Value} {f20 : Addr}
    {od21 an21 : Option Addr} {sl21 : Array (Option Value)} {oc21 kV21 dc21 pm21 cd21 ct21 : Value} {f21 : Addr}
    {od22 an22 : Option Addr} {sl22 : Array (Option Value)} {oc22 kV22 dc22 pm22 cd22 ct22 : Value} {f22 : Addr}
    {od23 an23 : Option Addr} {sl23 : Array (Option Value)} {oc23 kV23 dc23 pm23 cd23 ct23 : Value} {f23 : Addr}
    {od24 an24 : Option Addr} {sl24 : Array (Option Value)} {oc24 kV24 dc24 pm24 cd24 ct24 : Value} {f24 : Addr}
    {od25 an25 : Option Addr} {sl25 : Array (Option Value)} {oc25 kV25 dc25 pm25 cd25 ct25 : Value} {f25 : Addr}
    {od26 an26 : Option Addr} {sl26 : Array (Option Value)} {oc26 kV26 dc26 pm26 cd26 ct26 : Value} {f26 : Addr}
    {od27 an27 : Option Addr} {sl27 : Array (Option Value)} {oc27 kV27 dc27 pm27 cd27 ct27 : Value} {f27 : Addr}
    {od28 an28 : Option Addr} {sl28 : Array (Option Value)} {oc28 kV28 dc28 pm28 cd28 ct28 : Value} {f28 : Addr}
    {od29 an29 : Option Addr} {sl29 : Array (Option Value)} {oc29 kV29 dc29 pm29 cd29 ct29 : Value} {f29 : Addr}
    {od30 an30 : Option Addr} {sl30 : Array (Option Value)} {oc30 kV30 dc30 pm30 cd30 ct30 : Value} {f30 : Addr}
    {od31 an31 : Option Addr} {sl31 : Array (Option Value)} {oc31 kV31 dc31 pm31 cd31 ct31 : Value} {f31 : Addr}
    {od32 an32 : Option Addr} {sl32 : Array (Option Value)} {oc32 kV32 dc32 pm32 cd32 ct32 : Value} {f32 : Addr}
    {od33 an33 : Option Addr} {sl33 : Array (Option Value)} {oc33 kV33 dc33 pm33 cd33 ct33 : Value} {f33 : Addr}
    {od34 an34 : Option Addr} {sl34 : Array (Option Value)} {oc34 kV34 dc34 pm34 cd34 ct34 : Value} {f34 : Addr}
    {od35 an35 : Option Addr} {sl35 : Array (Option Value)} {oc35 kV35 dc35 pm35 cd35 ct35 : Value} {f35 : Addr}
    {od36 an36 : Option Addr} {sl36 : Array (Option Value)} {oc36 kV36 dc36 pm36 cd36 ct36 : Value} {f36 : Addr}
    {od37 an37 : Option Addr} {sl37 : Array (Option Value)} {oc37 kV37 dc37 pm37 cd37 ct37 : Value} {f37 : Addr}
    {od38 an38 : Option Addr} {sl38 : Array (Option Value)} {oc38 kV38 dc38 pm38 cd38 ct38 : Value} {f38 : Addr}
    {od39 an39 : Option Addr} {sl39 : Array (Option Value)} {oc39 kV39 dc39 pm39 cd39 ct39 : Value} {f39 : Addr}
    {aN : Addr} {ddN : Option Addr} {tN : Tok} {nN : Nat} {slN : Array (Option Value)}
    {aZ : Addr} {ddZ : Option Addr} {tZ uZ : Tok} {nZ : Nat} {slZ : Array (Option Value)}
    {aO : Addr} {ddO : Option Addr} {tO uO : Tok} {nO : Nat} {slO : Array (Option Value)}
    {tMOST_DAYS : Tok}
    {tMOST_PROJECTS : Tok}
    {tMOST_DAYS_IN_ALL : Tok}
    {CM_ fM_ : Addr} {odM_ anM_ : Option Addr} {slM_ : Array (Option Value)} {ocM_ kVM_ dcM_ pmM_ cdM_ ctM_ : Value}
    {C_BadProject f_BadProject : Addr} {od_BadProject an_BadProject : Option Addr} {sl_BadProject : Array (Option Value)} {oc_BadProject kV_BadProject dc_BadProject pm_BadProject cd_BadProject ct_BadProject : Value}
    {C_BadShare f_BadShare : Addr} {od_BadShare an_BadShare : Option Addr} {sl_BadShare : Array (Option Value)} {oc_BadShare kV_BadShare dc_BadShare pm_BadShare cd_BadShare ct_BadShare : Value}
    {cA0 PA0 : Addr} {ocA0 : Value} {ddA0 : Option Addr} {vsA0 : Array Value} {slA0 : Array (Option Value)}
    {cA1 PA1 : Addr} {ocA1 : Value} {ddA1 : Option Addr} {vsA1 : Array Value} {slA1 : Array (Option Value)}
    (a1 : PySem.W.nsIn K mainGlobals "is_whole" = some (some (.ref f1))) (l1 : K.lookup f1 = some ⟨oc1, od1, .func (PySem.W.fnOf "is_whole" "is_whole" (defArgs s_is_whole) (defBody s_is_whole) (defScope s_is_whole) .none kV1 dc1 pm1 an1 cd1 ct1), sl1⟩) (c1 : PySem.W.codeIn K cd1 "is_whole" = true) (k1 : PySem.W.keepIn K (.ref f1) = true)
    (a2 : PySem.W.nsIn K mainGlobals "is_fraction" = some (some (.ref f2))) (l2 : K.lookup f2 = some ⟨oc2, od2, .func (PySem.W.fnOf "is_fraction" "is_fraction" (defArgs s_is_fraction) (defBody s_is_fraction) (defScope s_is_fraction) .none kV2 dc2 pm2 an2 cd2 ct2), sl2⟩) (c2 : PySem.W.codeIn K cd2 "is_fraction" = true) (k2 : PySem.W.keepIn K (.ref f2) = true)
    (a3 : PySem.W.nsIn K mainGlobals "is_proper" = some (some (.ref f3))) (l3 : K.lookup f3 = some ⟨oc3, od3, .func (PySem.W.fnOf "is_proper" "is_proper" (defArgs s_is_proper) (defBody s_is_proper) (defScope s_is_proper) .none kV3 dc3 pm3 an3 cd3 ct3), sl3⟩) (c3 : PySem.W.codeIn K cd3 "is_proper" = true) (k3 : PySem.W.keepIn K (.ref f3) = true)
    (a4 : PySem.W.nsIn K mainGlobals "lowest" = some (some (.ref f4))) (l4 : K.lookup f4 = some ⟨oc4, od4, .func (PySem.W.fnOf "lowest" "lowest" (defArgs s_lowest) (defBody s_lowest) (defScope s_lowest) .none kV4 dc4 pm4 an4 cd4 ct4), sl4⟩) (c4 : PySem.W.codeIn K cd4 "lowest" = true) (k4 : PySem.W.keepIn K (.ref f4) = true)
    (a5 : PySem.W.nsIn K mainGlobals "add" = some (some (.ref f5))) (l5 : K.lookup f5 = some ⟨oc5, od5, .func (PySem.W.fnOf "add" "add" (defArgs s_add) (defBody s_add) (defScope s_add) .none kV5 dc5 pm5 an5 cd5 ct5), sl5⟩) (c5 : PySem.W.codeIn K cd5 "add" = true) (k5 : PySem.W.keepIn K (.ref f5) = true)
    (a6 : PySem.W.nsIn K mainGlobals "multiply" = some (some (.ref f6))) (l6 : K.lookup f6 = some ⟨oc6, od6, .func (PySem.W.fnOf "multiply" "multiply" (defArgs s_multiply) (defBody s_multiply) (defScope s_multiply) .none kV6 dc6 pm6 an6 cd6 ct6), sl6⟩) (c6 : PySem.W.codeIn K cd6 "multiply" = true) (k6 : PySem.W.keepIn K (.ref f6) = true)
    (a7 : PySem.W.nsIn K mainGlobals "divide" = some (some (.ref f7))) (l7 : K.lookup f7 = some ⟨oc7, od7, .func (PySem.W.fnOf "divide" "divide" (defArgs s_divide) (defBody s_divide) (defScope s_divide) .none kV7 dc7 pm7 an7 cd7 ct7), sl7⟩) (c7 : PySem.W.codeIn K cd7 "divide" = true) (k7 : PySem.W.keepIn K (.ref f7) = true)
    (a8 : PySem.W.nsIn K mainGlobals "is_below" = some (some (.ref f8))) (l8 : K.lookup f8 = some ⟨oc8, od8, .func (PySem.W.fnOf "is_below" "is_below" (defArgs s_is_below) (defBody s_is_below) (defScope s_is_below) .none kV8 dc8 pm8 an8 cd8 ct8), sl8⟩) (c8 : PySem.W.codeIn K cd8 "is_below" = true) (k8 : PySem.W.keepIn K (.ref f8) = true)
    (a9 : PySem.W.nsIn K mainGlobals "greatest" = some (some (.ref f9))) (l9 : K.lookup f9 = some ⟨oc9, od9, .func (PySem.W.fnOf "greatest" "greatest" (defArgs s_greatest) (defBody s_greatest) (defScope s_greatest) .none kV9 dc9 pm9 an9 cd9 ct9), sl9⟩) (c9 : PySem.W.codeIn K cd9 "greatest" = true) (k9 : PySem.W.keepIn K (.ref f9) = true)
    (a10 : PySem.W.nsIn K mainGlobals "is_project" = some (some (.ref f10))) (l10 : K.lookup f10 = some ⟨oc10, od10, .func (PySem.W.fnOf "is_project" "is_project" (defArgs s_is_project) (defBody s_is_project) (defScope s_is_project) .none kV10 dc10 pm10 an10 cd10 ct10), sl10⟩) (c10 : PySem.W.codeIn K cd10 "is_project" = true) (k10 : PySem.W.keepIn K (.ref f10) = true)
    (a11 : PySem.W.nsIn K mainGlobals "is_yard" = some (some (.ref f11))) (l11 : K.lookup f11 = some ⟨oc11, od11, .func (PySem.W.fnOf "is_yard" "is_yard" (defArgs s_is_yard) (defBody s_is_yard) (defScope s_is_yard) .none kV11 dc11 pm11 an11 cd11 ct11), sl11⟩) (c11 : PySem.W.codeIn K cd11 "is_yard" = true) (k11 : PySem.W.keepIn K (.ref f11) = true)
    (a12 : PySem.W.nsIn K mainGlobals "require_share_and_project" = some (some (.ref f12))) (l12 : K.lookup f12 = some ⟨oc12, od12, .func (PySem.W.fnOf "require_share_and_project" "require_share_and_project" (defArgs s_require_share_and_project) (defBody s_require_share_and_project) (defScope s_require_share_and_project) .none kV12 dc12 pm12 an12 cd12 ct12), sl12⟩) (c12 : PySem.W.codeIn K cd12 "require_share_and_project" = true) (k12 : PySem.W.keepIn K (.ref f12) = true)
    (a13 : PySem.W.nsIn K mainGlobals "term_of_project" = some (some (.ref f13))) (l13 : K.lookup f13 = some ⟨oc13, od13, .func (PySem.W.fnOf "term_of_project" "term_of_project" (defArgs s_term_of_project) (defBody s_term_of_project) (defScope s_term_of_project) .none kV13 dc13 pm13 an13 cd13 ct13), sl13⟩) (c13 : PySem.W.codeIn K cd13 "term_of_project" = true) (k13 : PySem.W.keepIn K (.ref f13) = true)
    (a14 : PySem.W.nsIn K mainGlobals "paid_in_all" = some (some (.ref f14))) (l14 : K.lookup f14 = some ⟨oc14, od14, .func (PySem.W.fnOf "paid_in_all" "paid_in_all" (defArgs s_paid_in_all) (defBody s_paid_in_all) (defScope s_paid_in_all) .none kV14 dc14 pm14 an14 cd14 ct14), sl14⟩) (c14 : PySem.W.codeIn K cd14 "paid_in_all" = true) (k14 : PySem.W.keepIn K (.ref f14) = true)
    (a15 : PySem.W.nsIn K mainGlobals "wage" = some (some (.ref f15))) (l15 : K.lookup f15 = some ⟨oc15, od15, .func (PySem.W.fnOf "wage" "wage" (defArgs s_wage) (defBody s_wage) (defScope s_wage) .none kV15 dc15 pm15 an15 cd15 ct15), sl15⟩) (c15 : PySem.W.codeIn K cd15 "wage" = true) (k15 : PySem.W.keepIn K (.ref f15) = true)
    (a16 : PySem.W.nsIn K mainGlobals "project_term" = some (some (.ref f16))) (l16 : K.lookup f16 = some ⟨oc16, od16, .func (PySem.W.fnOf "project_term" "project_term" (defArgs s_project_term) (defBody s_project_term) (defScope s_project_term) .none kV16 dc16 pm16 an16 cd16 ct16), sl16⟩) (c16 : PySem.W.codeIn K cd16 "project_term" = true) (k16 : PySem.W.keepIn K (.ref f16) = true)
    (a17 : PySem.W.nsIn K mainGlobals "falling" = some (some (.ref f17))) (l17 : K.lookup f17 = some ⟨oc17, od17, .func (PySem.W.fnOf "falling" "falling" (defArgs s_falling) (defBody s_falling) (defScope s_falling) .none kV17 dc17 pm17 an17 cd17 ct17), sl17⟩) (c17 : PySem.W.codeIn K cd17 "falling" = true) (k17 : PySem.W.keepIn K (.ref f17) = true)
    (a18 : PySem.W.nsIn K mainGlobals "_law_spread" = some (some (.ref f18))) (l18 : K.lookup f18 = some ⟨oc18, od18, .func (PySem.W.fnOf "_law_spread" "_law_spread" (defArgs s__law_spread) (defBody s__law_spread) (defScope s__law_spread) .none kV18 dc18 pm18 an18 cd18 ct18), sl18⟩) (c18 : PySem.W.codeIn K cd18 "_law_spread" = true) (k18 : PySem.W.keepIn K (.ref f18) = true)
    (a19 : PySem.W.nsIn K mainGlobals "_law_open" = some (some (.ref f19))) (l19 : K.lookup f19 = some ⟨oc19, od19, .func (PySem.W.fnOf "_law_open" "_law_open" (defArgs s__law_open) (defBody s__law_open) (defScope s__law_open) .none kV19 dc19 pm19 an19 cd19 ct19), sl19⟩) (c19 : PySem.W.codeIn K cd19 "_law_open" = true) (k19 : PySem.W.keepIn K (.ref f19) = true)
    (a20 : PySem.W.nsIn K mainGlobals "_law_take" = some (some (.ref f20))) (l20 : K.lookup f20 = some ⟨oc20, od20, .func (PySem.W.fnOf "_law_take" "_law_take" (defArgs s__law_take) (defBody s__law_take) (defScope s__law_take) .none kV20 dc20 pm20 an20 cd20 ct20), sl20⟩) (c20 : PySem.W.codeIn K cd20 "_law_take" = true) (k20 : PySem.W.keepIn K (.ref f20) = true)
    (a21 : PySem.W.nsIn K mainGlobals "_law_anew" = some (some (.ref f21))) (l21 : K.lookup f21 = some ⟨oc21, od21, .func (PySem.W.fnOf "_law_anew" "_law_anew" (defArgs s__law_anew) (defBody s__law_anew) (defScope s__law_anew) .none kV21 dc21 pm21 an21 cd21 ct21), sl21⟩) (c21 : PySem.W.codeIn K cd21 "_law_anew" = true) (k21 : PySem.W.keepIn K (.ref f21) = true)
    (a22 : PySem.W.nsIn K mainGlobals "_law_one" = some (some (.ref f22))) (l22 : K.lookup f22 = some ⟨oc22, od22, .func (PySem.W.fnOf "_law_one" "_law_one" (defArgs s__law_one) (defBody s__law_one) (defScope s__law_one) .none kV22 dc22 pm22 an22 cd22 ct22), sl22⟩) (c22 : PySem.W.codeIn K cd22 "_law_one" = true) (k22 : PySem.W.keepIn K (.ref f22) = true)
    (a23 : PySem.W.nsIn K mainGlobals "_law_divisor" = some (some (.ref f23))) (l23 : K.lookup f23 = some ⟨oc23, od23, .func (PySem.W.fnOf "_law_divisor" "_law_divisor" (defArgs s__law_divisor) (defBody s__law_divisor) (defScope s__law_divisor) .none kV23 dc23 pm23 an23 cd23 ct23), sl23⟩) (c23 : PySem.W.codeIn K cd23 "_law_divisor" = true) (k23 : PySem.W.keepIn K (.ref f23) = true)
    (a24 : PySem.W.nsIn K mainGlobals "_law_frac" = some (some (.ref f24))) (l24 : K.lookup f24 = some ⟨oc24, od24, .func (PySem.W.fnOf "_law_frac" "_law_frac" (defArgs s__law_frac) (defBody s__law_frac) (defScope s__law_frac) .none kV24 dc24 pm24 an24 cd24 ct24), sl24⟩) (c24 : PySem.W.codeIn K cd24 "_law_frac" = true) (k24 : PySem.W.keepIn K (.ref f24) = true)
    (a25 : PySem.W.nsIn K mainGlobals "_law_add" = some (some (.ref f25))) (l25 : K.lookup f25 = some ⟨oc25, od25, .func (PySem.W.fnOf "_law_add" "_law_add" (defArgs s__law_add) (defBody s__law_add) (defScope s__law_add) .none kV25 dc25 pm25 an25 cd25 ct25), sl25⟩) (c25 : PySem.W.codeIn K cd25 "_law_add" = true) (k25 : PySem.W.keepIn K (.ref f25) = true)
    (a26 : PySem.W.nsIn K mainGlobals "_law_mul" = some (some (.ref f26))) (l26 : K.lookup f26 = some ⟨oc26, od26, .func (PySem.W.fnOf "_law_mul" "_law_mul" (defArgs s__law_mul) (defBody s__law_mul) (defScope s__law_mul) .none kV26 dc26 pm26 an26 cd26 ct26), sl26⟩) (c26 : PySem.W.codeIn K cd26 "_law_mul" = true) (k26 : PySem.W.keepIn K (.ref f26) = true)
    (a27 : PySem.W.nsIn K mainGlobals "_law_is_less" = some (some (.ref f27))) (l27 : K.lookup f27 = some ⟨oc27, od27, .func (PySem.W.fnOf "_law_is_less" "_law_is_less" (defArgs s__law_is_less) (defBody s__law_is_less) (defScope s__law_is_less) .none kV27 dc27 pm27 an27 cd27 ct27), sl27⟩) (c27 : PySem.W.codeIn K cd27 "_law_is_less" = true) (k27 : PySem.W.keepIn K (.ref f27) = true)
    (a28 : PySem.W.nsIn K mainGlobals "_law_same" = some (some (.ref f28))) (l28 : K.lookup f28 = some ⟨oc28, od28, .func (PySem.W.fnOf "_law_same" "_law_same" (defArgs s__law_same) (defBody s__law_same) (defScope s__law_same) .none kV28 dc28 pm28 an28 cd28 ct28), sl28⟩) (c28 : PySem.W.codeIn K cd28 "_law_same" = true) (k28 : PySem.W.keepIn K (.ref f28) = true)
    (a29 : PySem.W.nsIn K mainGlobals "_law_share" = some (some (.ref f29))) (l29 : K.lookup f29 = some ⟨oc29, od29, .func (PySem.W.fnOf "_law_share" "_law_share" (defArgs s__law_share) (defBody s__law_share) (defScope s__law_share) .none kV29 dc29 pm29 an29 cd29 ct29), sl29⟩) (c29 : PySem.W.codeIn K cd29 "_law_share" = true) (k29 : PySem.W.keepIn K (.ref f29) = true)
    (a30 : PySem.W.nsIn K mainGlobals "_law_day_pay" = some (some (.ref f30))) (l30 : K.lookup f30 = some ⟨oc30, od30, .func (PySem.W.fnOf "_law_day_pay" "_law_day_pay" (defArgs s__law_day_pay) (defBody s__law_day_pay) (defScope s__law_day_pay) .none kV30 dc30 pm30 an30 cd30 ct30), sl30⟩) (c30 : PySem.W.codeIn K cd30 "_law_day_pay" = true) (k30 : PySem.W.keepIn K (.ref f30) = true)
    (a31 : PySem.W.nsIn K mainGlobals "_law_project" = some (some (.ref f31))) (l31 : K.lookup f31 = some ⟨oc31, od31, .func (PySem.W.fnOf "_law_project" "_law_project" (defArgs s__law_project) (defBody s__law_project) (defScope s__law_project) .none kV31 dc31 pm31 an31 cd31 ct31), sl31⟩) (c31 : PySem.W.codeIn K cd31 "_law_project" = true) (k31 : PySem.W.keepIn K (.ref f31) = true)
    (a32 : PySem.W.nsIn K mainGlobals "_law_run_worth" = some (some (.ref f32))) (l32 : K.lookup f32 = some ⟨oc32, od32, .func (PySem.W.fnOf "_law_run_worth" "_law_run_worth" (defArgs s__law_run_worth) (defBody s__law_run_worth) (defScope s__law_run_worth) .none kV32 dc32 pm32 an32 cd32 ct32), sl32⟩) (c32 : PySem.W.codeIn K cd32 "_law_run_worth" = true) (k32 : PySem.W.keepIn K (.ref f32) = true)
    (a33 : PySem.W.nsIn K mainGlobals "_law_over" = some (some (.ref f33))) (l33 : K.lookup f33 = some ⟨oc33, od33, .func (PySem.W.fnOf "_law_over" "_law_over" (defArgs s__law_over) (defBody s__law_over) (defScope s__law_over) .none kV33 dc33 pm33 an33 cd33 ct33), sl33⟩) (c33 : PySem.W.codeIn K cd33 "_law_over" = true) (k33 : PySem.W.keepIn K (.ref f33) = true)
    (a34 : PySem.W.nsIn K mainGlobals "_law_falling" = some (some (.ref f34))) (l34 : K.lookup f34 = some ⟨oc34, od34, .func (PySem.W.fnOf "_law_falling" "_law_falling" (defArgs s__law_falling) (defBody s__law_falling) (defScope s__law_falling) .none kV34 dc34 pm34 an34 cd34 ct34), sl34⟩) (c34 : PySem.W.codeIn K cd34 "_law_falling" = true) (k34 : PySem.W.keepIn K (.ref f34) = true)
    (a35 : PySem.W.nsIn K mainGlobals "_law_project_term" = some (some (.ref f35))) (l35 : K.lookup f35 = some ⟨oc35, od35, .func (PySem.W.fnOf "_law_project_term" "_law_project_term" (defArgs s__law_project_term) (defBody s__law_project_term) (defScope s__law_project_term) .none kV35 dc35 pm35 an35 cd35 ct35), sl35⟩) (c35 : PySem.W.codeIn K cd35 "_law_project_term" = true) (k35 : PySem.W.keepIn K (.ref f35) = true)
    (a36 : PySem.W.nsIn K mainGlobals "_law_told" = some (some (.ref f36))) (l36 : K.lookup f36 = some ⟨oc36, od36, .func (PySem.W.fnOf "_law_told" "_law_told" (defArgs s__law_told) (defBody s__law_told) (defScope s__law_told) .none kV36 dc36 pm36 an36 cd36 ct36), sl36⟩) (c36 : PySem.W.codeIn K cd36 "_law_told" = true) (k36 : PySem.W.keepIn K (.ref f36) = true)
    (a37 : PySem.W.nsIn K mainGlobals "_law_bent" = some (some (.ref f37))) (l37 : K.lookup f37 = some ⟨oc37, od37, .func (PySem.W.fnOf "_law_bent" "_law_bent" (defArgs s__law_bent) (defBody s__law_bent) (defScope s__law_bent) .none kV37 dc37 pm37 an37 cd37 ct37), sl37⟩) (c37 : PySem.W.codeIn K cd37 "_law_bent" = true) (k37 : PySem.W.keepIn K (.ref f37) = true)
    (a38 : PySem.W.nsIn K mainGlobals "_law_yards" = some (some (.ref f38))) (l38 : K.lookup f38 = some ⟨oc38, od38, .func (PySem.W.fnOf "_law_yards" "_law_yards" (defArgs s__law_yards) (defBody s__law_yards) (defScope s__law_yards) .none kV38 dc38 pm38 an38 cd38 ct38), sl38⟩) (c38 : PySem.W.codeIn K cd38 "_law_yards" = true) (k38 : PySem.W.keepIn K (.ref f38) = true)
    (a39 : PySem.W.nsIn K mainGlobals "law" = some (some (.ref f39))) (l39 : K.lookup f39 = some ⟨oc39, od39, .func (PySem.W.fnOf "law" "law" (defArgs s_law) (defBody s_law) (defScope s_law) .none kV39 dc39 pm39 an39 cd39 ct39), sl39⟩) (c39 : PySem.W.codeIn K cd39 "law" = true) (k39 : PySem.W.keepIn K (.ref f39) = true)
    (z_abs : PySem.W.nsIn K mainGlobals "abs" = some none)
    (z_all : PySem.W.nsIn K mainGlobals "all" = some none)
    (z_bool : PySem.W.nsIn K mainGlobals "bool" = some none)
    (z_enumerate : PySem.W.nsIn K mainGlobals "enumerate" = some none)
    (z_int : PySem.W.nsIn K mainGlobals "int" = some none)
    (z_isinstance : PySem.W.nsIn K mainGlobals "isinstance" = some none)
    (z_len : PySem.W.nsIn K mainGlobals "len" = some none)
    (z_list : PySem.W.nsIn K mainGlobals "list" = some none)
    (z_max : PySem.W.nsIn K mainGlobals "max" = some none)
    (z_range : PySem.W.nsIn K mainGlobals "range" = some none)
    (z_repr : PySem.W.nsIn K mainGlobals "repr" = some none)
    (z_reversed : PySem.W.nsIn K mainGlobals "reversed" = some none)
    (z_sum : PySem.W.nsIn K mainGlobals "sum" = some none)
    (z_tuple : PySem.W.nsIn K mainGlobals "tuple" = some none)
    (z_gcd : PySem.W.nsIn K mainGlobals "gcd" = some (some (.builtin "math.gcd")))
    (zN : PySem.W.nsIn K mainGlobals "END" = some (some (.ref aN))) (lN : K.lookup aN = some ⟨.type "tuple", ddN, .seq #[.str "end" tN] nN, slN⟩)
    (zZ : PySem.W.nsIn K mainGlobals "ZERO" = some (some (.ref aZ))) (lZ : K.lookup aZ = some ⟨.type "tuple", ddZ, .seq #[.int 0 tZ, .int 1 uZ] nZ, slZ⟩)
    (zO : PySem.W.nsIn K mainGlobals "ONE" = some (some (.ref aO))) (lO : K.lookup aO = some ⟨.type "tuple", ddO, .seq #[.int 1 tO, .int 1 uO] nO, slO⟩)
    (zMOST_DAYS : PySem.W.nsIn K mainGlobals "MOST_DAYS" = some (some (.int 8 tMOST_DAYS)))
    (zMOST_PROJECTS : PySem.W.nsIn K mainGlobals "MOST_PROJECTS" = some (some (.int 3 tMOST_PROJECTS)))
    (zMOST_DAYS_IN_ALL : PySem.W.nsIn K mainGlobals "MOST_DAYS_IN_ALL" = some (some (.int 12 tMOST_DAYS_IN_ALL)))
    (zVE : PySem.W.nsIn K mainGlobals "ValueError" = some none) (zv : PySem.W.findCls K (.type "ValueError") (.type "type") "__init__" = some (.val (.builtin "ValueError.__init__"))) (zM_ : PySem.W.nsIn K mainGlobals "MixError" = some (some (.ref CM_))) (iM_ : PySem.W.findCls K (.ref CM_) (.type "type") "__init__" = some (.val (.ref fM_))) (lM_ : K.lookup fM_ = some ⟨ocM_, odM_, .func (PySem.W.fnOf "__init__" "MixError.__init__" (defArgs s_i_MixError) (defBody s_i_MixError) (defScope s_i_MixError) .none kVM_ dcM_ pmM_ anM_ cdM_ ctM_), slM_⟩) (cM_ : PySem.W.codeIn K cdM_ "MixError.__init__" = true) (xM_ : baseB K CM_ fM_ = true)
    (z_BadProject : PySem.W.nsIn K mainGlobals "BadProject" = some (some (.ref C_BadProject))) (i_BadProject : PySem.W.findIn K (.ref C_BadProject) "__init__" = some (some (.ref f_BadProject))) (l_BadProject : K.lookup f_BadProject = some ⟨oc_BadProject, od_BadProject, .func (PySem.W.fnOf "__init__" "BadProject.__init__" (defArgs s_i_BadProject) (defBody s_i_BadProject) (defScope s_i_BadProject) .none kV_BadProject dc_BadProject pm_BadProject an_BadProject cd_BadProject ct_BadProject), sl_BadProject⟩) (c_BadProject : PySem.W.codeIn K cd_BadProject "BadProject.__init__" = true) (k_BadProject : PySem.W.keepIn K (.ref f_BadProject) = true) (x_BadProject : errB K C_BadProject CM_ f_BadProject "BadProject" = true)
    (z_BadShare : PySem.W.nsIn K mainGlobals "BadShare" = some (some (.ref C_BadShare))) (i_BadShare : PySem.W.findIn K (.ref C_BadShare) "__init__" = some (some (.ref f_BadShare))) (l_BadShare : K.lookup f_BadShare = some ⟨oc_BadShare, od_BadShare, .func (PySem.W.fnOf "__init__" "BadShare.__init__" (defArgs s_i_BadShare) (defBody s_i_BadShare) (defScope s_i_BadShare) .none kV_BadShare dc_BadShare pm_BadShare an_BadShare cd_BadShare ct_BadShare), sl_BadShare⟩) (c_BadShare : PySem.W.codeIn K cd_BadShare "BadShare.__init__" = true) (k_BadShare : PySem.W.keepIn K (.ref f_BadShare) = true) (x_BadShare : errB K C_BadShare CM_ f_BadShare "BadShare" = true)
    (tA0 : cd10 = .ref cA0) (uA0 : K.lookup cA0 = some ⟨ocA0, ddA0, .fields vsA0, slA0⟩) (vA0 : vsA0[11]? = some (.ref PA0)) (nA0 : K.lookup PA0 = none) (hA0 : CodeK ocA0 vsA0 cA0 PA0)
    (tA1 : cd11 = .ref cA1) (uA1 : K.lookup cA1 = some ⟨ocA1, ddA1, .fields vsA1, slA1⟩) (vA1 : vsA1[11]? = some (.ref PA1)) (nA1 : K.lookup PA1 = none) (hA1 : CodeK ocA1 vsA1 cA1 PA1) :
    ∃ (fd : FuncData) (cs : List (Addr × Addr)), (∀ p ∈ cs, h.get? p.2 = some { cls := .none, data := .fields #[] }) ∧ (∀ p ∈ cs, K.lookup p.2 = none) ∧ (∀ p ∈ cs, PySem.W.CodeHd h p.1 p.2) ∧ (∀ (s : Shared) (u : Value), BindsTo s fd ⟨[u], []⟩ [("_law_script", u)]) ∧
      (∀ (H : Hp) (a : Addr) (ns : List Int), ns.length ≤ 63 → (∀ p ∈ cs, H p.2 = some (.tbl #[])) → SqL K H a (ns.map V.int) → spLaw K [PA0, PA1] [.ref a] H (fun v _ => v = .bl true) E0) ∧
      ∀ base : Heap, K.In base → base.Ns mainGlobals mg → (∀ p ∈ cs, GxR.TabB base mg p.1 p.2) → FnG l.prog w K mg base 9 fa fd ["_law_script"] (spLaw K [PA0, PA1]) := by
  have e := hfa.symm.trans (PySem.W.mg_of X G a39)
  cases e
  let T : Txt K mg := {
    d_is_whole := ⟨f1, _, fun_mk (st := s_is_whole) l1 c1 k1, (fun_mk (st := s_is_whole) l1 c1 k1).binds (ps := ["value"]) (fun _ _ _ _ _ _ us hl => match us, hl with | [_], _ => rfl), PySem.W.mg_of X G a1⟩,
    d_is_fraction := ⟨f2, _, fun_mk (st := s_is_fraction) l2 c2 k2, (fun_mk (st := s_is_fraction) l2 c2 k2).binds (ps := ["value"]) (fun _ _ _ _ _ _ us hl => match us, hl with | [_], _ => rfl), PySem.W.mg_of X G a2⟩,
    d_is_proper := ⟨f3, _, fun_mk (st := s_is_proper) l3 c3 k3, (fun_mk (st := s_is_proper) l3 c3 k3).binds (ps := ["value"]) (fun _ _ _ _ _ _ us hl => match us, hl with | [_], _ => rfl), PySem.W.mg_of X G a3⟩,
    d_lowest := ⟨f4, _, fun_mk (st := s_lowest) l4 c4 k4, (fun_mk (st := s_lowest) l4 c4 k4).binds (ps := ["top", "bottom"]) (fun _ _ _ _ _ _ us hl => match us, hl with | [_, _], _ => rfl), PySem.W.mg_of X G a4⟩,
    d_add := ⟨f5, _, fun_mk (st := s_add) l5 c5 k5, (fun_mk (st := s_add) l5 c5 k5).binds (ps := ["one", "other"]) (fun _ _ _ _ _ _ us hl => match us, hl with | [_, _], _ => rfl), PySem.W.mg_of X G a5⟩,
    d_multiply := ⟨f6, _, fun_mk (st := s_multiply) l6 c6 k6, (fun_mk (st := s_multiply) l6 c6 k6).binds (ps := ["one", "other"]) (fun _ _ _ _ _ _ us hl => match us, hl with | [_, _], _ => rfl), PySem.W.mg_of X G a6⟩,
    d_divide := ⟨f7, _, fun_mk (st := s_divide) l7 c7 k7, (fun_mk (st := s_divide) l7 c7 k7).binds (ps := ["one", "other"]) (fun _ _ _ _ _ _ us hl => match us, hl with | [_, _], _ => rfl), PySem.W.mg_of X G a7⟩,
    d_is_below := ⟨f8, _, fun_mk (st := s_is_below) l8 c8 k8, (fun_mk (st := s_is_below) l8 c8 k8).binds (ps := ["one", "other"]) (fun _ _ _ _ _ _ us hl => match us, hl with | [_, _], _ => rfl), PySem.W.mg_of X G a8⟩,
    d_greatest := ⟨f9, _, fun_mk (st := s_greatest) l9 c9 k9, (fun_mk (st := s_greatest) l9 c9 k9).binds (ps := ["fractions"]) (fun _ _ _ _ _ _ us hl => match us, hl with | [_], _ => rfl), PySem.W.mg_of X G a9⟩,
    d_is_project := ⟨f10, _, fun_mk (st := s_is_project) l10 c10 k10, (fun_mk (st := s_is_project) l10 c10 k10).binds (ps := ["value"]) (fun _ _ _ _ _ _ us hl => match us, hl with | [_], _ => rfl), PySem.W.mg_of X G a10⟩,
    d_is_yard := ⟨f11, _, fun_mk (st := s_is_yard) l11 c11 k11, (fun_mk (st := s_is_yard) l11 c11 k11).binds (ps := ["value"]) (fun _ _ _ _ _ _ us hl => match us, hl with | [_], _ => rfl), PySem.W.mg_of X G a11⟩,
    d_require_share_and_project := ⟨f12, _, fun_mk (st := s_require_share_and_project) l12 c12 k12, (fun_mk (st := s_require_share_and_project) l12 c12 k12).binds (ps := ["share", "project"]) (fun _ _ _ _ _ _ us hl => match us, hl with | [_, _], _ => rfl), PySem.W.mg_of X G a12⟩,
    d_term_of_project := ⟨f13, _, fun_mk (st := s_term_of_project) l13 c13 k13, (fun_mk (st := s_term_of_project) l13 c13 k13).binds (ps := ["share", "project"]) (fun _ _ _ _ _ _ us hl => match us, hl with | [_, _], _ => rfl), PySem.W.mg_of X G a13⟩,
    d_paid_in_all := ⟨f14, _, fun_mk (st := s_paid_in_all) l14 c14 k14, (fun_mk (st := s_paid_in_all) l14 c14 k14).binds (ps := ["share", "pays"]) (fun _ _ _ _ _ _ us hl => match us, hl with | [_, _], _ => rfl), PySem.W.mg_of X G a14⟩,
    d_wage := ⟨f15, _, fun_mk (st := s_wage) l15 c15 k15, (fun_mk (st := s_wage) l15 c15 k15).binds (ps := ["share", "days"]) (fun _ _ _ _ _ _ us hl => match us, hl with | [_, _], _ => rfl), PySem.W.mg_of X G a15⟩,
    d_project_term := ⟨f16, _, fun_mk (st := s_project_term) l16 c16 k16, (fun_mk (st := s_project_term) l16 c16 k16).binds (ps := ["share", "project"]) (fun _ _ _ _ _ _ us hl => match us, hl with | [_, _], _ => rfl), PySem.W.mg_of X G a16⟩,
    d_falling := ⟨f17, _, fun_mk (st := s_falling) l17 c17 k17, (fun_mk (st := s_falling) l17 c17 k17).binds (ps := ["share", "project"]) (fun _ _ _ _ _ _ us hl => match us, hl with | [_, _], _ => rfl), PySem.W.mg_of X G a17⟩,
    d__law_spread := ⟨f18, _, fun_mk (st := s__law_spread) l18 c18 k18, (fun_mk (st := s__law_spread) l18 c18 k18).binds (ps := ["_law_cell", "_law_at"]) (fun _ _ _ _ _ _ us hl => match us, hl with | [_, _], _ => rfl), PySem.W.mg_of X G a18⟩,
    d__law_open := ⟨f19, _, fun_mk (st := s__law_open) l19 c19 k19, (fun_mk (st := s__law_open) l19 c19 k19).binds (ps := ["_law_script"]) (fun _ _ _ _ _ _ us hl => match us, hl with | [_], _ => rfl), PySem.W.mg_of X G a19⟩,
    d__law_take := ⟨f20, _, fun_mk (st := s__law_take) l20 c20 k20, (fun_mk (st := s__law_take) l20 c20 k20).binds (ps := ["_law_pen", "_law_many"]) (fun _ _ _ _ _ _ us hl => match us, hl with | [_, _], _ => rfl), PySem.W.mg_of X G a20⟩,
    d__law_anew := ⟨f21, _, fun_mk (st := s__law_anew) l21 c21 k21, (fun_mk (st := s__law_anew) l21 c21 k21).binds (ps := ["_law_pen"]) (fun _ _ _ _ _ _ us hl => match us, hl with | [_], _ => rfl), PySem.W.mg_of X G a21⟩,
    d__law_one := ⟨f22, _, fun_mk (st := s__law_one) l22 c22 k22, (fun_mk (st := s__law_one) l22 c22 k22).binds (ps := ["_law_pen", "_law_some"]) (fun _ _ _ _ _ _ us hl => match us, hl with | [_, _], _ => rfl), PySem.W.mg_of X G a22⟩,
    d__law_divisor := ⟨f23, _, fun_mk (st := s__law_divisor) l23 c23 k23, (fun_mk (st := s__law_divisor) l23 c23 k23).binds (ps := ["_law_one_here", "_law_other"]) (fun _ _ _ _ _ _ us hl => match us, hl with | [_, _], _ => rfl), PySem.W.mg_of X G a23⟩,
    d__law_frac := ⟨f24, _, fun_mk (st := s__law_frac) l24 c24 k24, (fun_mk (st := s__law_frac) l24 c24 k24).binds (ps := ["_law_top", "_law_bottom"]) (fun _ _ _ _ _ _ us hl => match us, hl with | [_, _], _ => rfl), PySem.W.mg_of X G a24⟩,
    d__law_add := ⟨f25, _, fun_mk (st := s__law_add) l25 c25 k25, (fun_mk (st := s__law_add) l25 c25 k25).binds (ps := ["_law_one_here", "_law_other"]) (fun _ _ _ _ _ _ us hl => match us, hl with | [_, _], _ => rfl), PySem.W.mg_of X G a25⟩,
    d__law_mul := ⟨f26, _, fun_mk (st := s__law_mul) l26 c26 k26, (fun_mk (st := s__law_mul) l26 c26 k26).binds (ps := ["_law_one_here", "_law_other"]) (fun _ _ _ _ _ _ us hl => match us, hl with | [_, _], _ => rfl), PySem.W.mg_of X G a26⟩,
    d__law_is_less := ⟨f27, _, fun_mk (st := s__law_is_less) l27 c27 k27, (fun_mk (st := s__law_is_less) l27 c27 k27).binds (ps := ["_law_one_here", "_law_other"]) (fun _ _ _ _ _ _ us hl => match us, hl with | [_, _], _ => rfl), PySem.W.mg_of X G a27⟩,
    d__law_same := ⟨f28, _, fun_mk (st := s__law_same) l28 c28 k28, (fun_mk (st := s__law_same) l28 c28 k28).binds (ps := ["_law_one_here", "_law_other"]) (fun _ _ _ _ _ _ us hl => match us, hl with | [_, _], _ => rfl), PySem.W.mg_of X G a28⟩,
    d__law_share := ⟨f29, _, fun_mk (st := s__law_share) l29 c29 k29, (fun_mk (st := s__law_share) l29 c29 k29).binds (ps := ["_law_pen"]) (fun _ _ _ _ _ _ us hl => match us, hl with | [_], _ => rfl), PySem.W.mg_of X G a29⟩,
    d__law_day_pay := ⟨f30, _, fun_mk (st := s__law_day_pay) l30 c30 k30, (fun_mk (st := s__law_day_pay) l30 c30 k30).binds (ps := ["_law_pen"]) (fun _ _ _ _ _ _ us hl => match us, hl with | [_], _ => rfl), PySem.W.mg_of X G a30⟩,
    d__law_project := ⟨f31, _, fun_mk (st := s__law_project) l31 c31 k31, (fun_mk (st := s__law_project) l31 c31 k31).binds (ps := ["_law_pen", "_law_many"]) (fun _ _ _ _ _ _ us hl => match us, hl with | [_, _], _ => rfl), PySem.W.mg_of X G a31⟩,
    d__law_run_worth := ⟨f32, _, fun_mk (st := s__law_run_worth) l32 c32 k32, (fun_mk (st := s__law_run_worth) l32 c32 k32).binds (ps := ["_law_part", "_law_row"]) (fun _ _ _ _ _ _ us hl => match us, hl with | [_, _], _ => rfl), PySem.W.mg_of X G a32⟩,
    d__law_over := ⟨f33, _, fun_mk (st := s__law_over) l33 c33 k33, (fun_mk (st := s__law_over) l33 c33 k33).binds (ps := ["_law_one_here", "_law_other"]) (fun _ _ _ _ _ _ us hl => match us, hl with | [_, _], _ => rfl), PySem.W.mg_of X G a33⟩,
    d__law_falling := ⟨f34, _, fun_mk (st := s__law_falling) l34 c34 k34, (fun_mk (st := s__law_falling) l34 c34 k34).binds (ps := ["_law_part", "_law_project_here"]) (fun _ _ _ _ _ _ us hl => match us, hl with | [_, _], _ => rfl), PySem.W.mg_of X G a34⟩,
    d__law_project_term := ⟨f35, _, fun_mk (st := s__law_project_term) l35 c35 k35, (fun_mk (st := s__law_project_term) l35 c35 k35).binds (ps := ["_law_part", "_law_project_here"]) (fun _ _ _ _ _ _ us hl => match us, hl with | [_, _], _ => rfl), PySem.W.mg_of X G a35⟩,
    d__law_told := ⟨f36, _, fun_mk (st := s__law_told) l36 c36 k36, (fun_mk (st := s__law_told) l36 c36 k36).binds (ps := ["_law_call", "_law_part", "_law_project_here"]) (fun _ _ _ _ _ _ us hl => match us, hl with | [_, _, _], _ => rfl), PySem.W.mg_of X G a36⟩,
    d__law_bent := ⟨f37, _, fun_mk (st := s__law_bent) l37 c37 k37, (fun_mk (st := s__law_bent) l37 c37 k37).binds (ps := ["_law_pen", "_law_some"]) (fun _ _ _ _ _ _ us hl => match us, hl with | [_, _], _ => rfl), PySem.W.mg_of X G a37⟩,
    d__law_yards := ⟨f38, _, fun_mk (st := s__law_yards) l38 c38 k38, (fun_mk (st := s__law_yards) l38 c38 k38).binds (ps := ["_law_pen", "_law_part", "_law_project_here"]) (fun _ _ _ _ _ _ us hl => match us, hl with | [_, _, _], _ => rfl), PySem.W.mg_of X G a38⟩,
    d_law := ⟨fa, _, fun_mk (st := s_law) l39 c39 k39, (fun_mk (st := s_law) l39 c39 k39).binds (ps := ["_law_script"]) (fun _ _ _ _ _ _ us hl => match us, hl with | [_], _ => rfl), PySem.W.mg_of X G a39⟩,
    n_abs := PySem.W.mg_none_of X G z_abs,
    n_all := PySem.W.mg_none_of X G z_all,
    n_bool := PySem.W.mg_none_of X G z_bool,
    n_enumerate := PySem.W.mg_none_of X G z_enumerate,
    n_int := PySem.W.mg_none_of X G z_int,
    n_isinstance := PySem.W.mg_none_of X G z_isinstance,
    n_len := PySem.W.mg_none_of X G z_len,
    n_list := PySem.W.mg_none_of X G z_list,
    n_max := PySem.W.mg_none_of X G z_max,
    n_range := PySem.W.mg_none_of X G z_range,
    n_repr := PySem.W.mg_none_of X G z_repr,
    n_reversed := PySem.W.mg_none_of X G z_reversed,
    n_sum := PySem.W.mg_none_of X G z_sum,
    n_tuple := PySem.W.mg_none_of X G z_tuple,
    n_gcd := PySem.W.mg_of X G z_gcd,
    a_END := aN, c_END := PySem.W.mg_of X G zN, k_END := ⟨_, _, _, lN, rfl, rfl, (by show 1 ≤ sizeLine; decide), .cons ⟨_, rfl⟩ .nil⟩,
    a_ZERO := aZ, c_ZERO := PySem.W.mg_of X G zZ, k_ZERO := ⟨_, _, _, lZ, rfl, rfl, (by show 2 ≤ sizeLine; decide), .cons ⟨_, rfl⟩ (.cons ⟨_, rfl⟩ .nil)⟩,
    a_ONE := aO, c_ONE := PySem.W.mg_of X G zO, k_ONE := ⟨_, _, _, lO, rfl, rfl, (by show 2 ≤ sizeLine; decide), .cons ⟨_, rfl⟩ (.cons ⟨_, rfl⟩ .nil)⟩,
    t_MOST_DAYS := tMOST_DAYS, c_MOST_DAYS := PySem.W.mg_of X G zMOST_DAYS,
    t_MOST_PROJECTS := tMOST_PROJECTS, c_MOST_PROJECTS := PySem.W.mg_of X G zMOST_PROJECTS,
    t_MOST_DAYS_IN_ALL := tMOST_DAYS_IN_ALL, c_MOST_DAYS_IN_ALL := PySem.W.mg_of X G zMOST_DAYS_IN_ALL,
    n_ValueError := PySem.W.mg_none_of X G zVE, v_VE := zv, M := { C := CM_, f := fM_, fd := _, g := PySem.W.mg_of X G zM_, F := fun_mk (st := s_i_MixError) lM_ cM_ (base_ok xM_).2.2, b := (fun_mk (st := s_i_MixError) lM_ cM_ (base_ok xM_).2.2).binds (ps := ["self", "value"]) (fun _ _ _ _ _ _ us hl => match us, hl with | [_, _], _ => rfl), rd := (base_ok xM_).1, ga := (base_ok xM_).2.1, fi := iM_, kp := (base_ok xM_).2.2 },
    E_BadProject := { C := C_BadProject, f := f_BadProject, fd := _, g := PySem.W.mg_of X G z_BadProject, F := fun_mk (st := s_i_BadProject) l_BadProject c_BadProject k_BadProject, b := (fun_mk (st := s_i_BadProject) l_BadProject c_BadProject k_BadProject).binds (ps := ["self", "value"]) (fun _ _ _ _ _ _ us hl => match us, hl with | [_, _], _ => rfl), x := err_ok x_BadProject },
    E_BadShare := { C := C_BadShare, f := f_BadShare, fd := _, g := PySem.W.mg_of X G z_BadShare, F := fun_mk (st := s_i_BadShare) l_BadShare c_BadShare k_BadShare, b := (fun_mk (st := s_i_BadShare) l_BadShare c_BadShare k_BadShare).binds (ps := ["self", "value"]) (fun _ _ _ _ _ _ us hl => match us, hl with | [_, _], _ => rfl), x := err_ok x_BadShare },
    c_is_project := cA0, P_is_project := PA0, h_is_project := tA0,
    c_is_yard := cA1, P_is_yard := PA1, h_is_yard := tA1 }
  refine ⟨PySem.W.fnOf "law" "law" (defArgs s_law) (defBody s_law) (defScope s_law) .none kV39 dc39 pm39 an39 cd39 ct39, [(cA0, PA0), (cA1, PA1)], ?_, ?_, ?_, fun s v => .of_eq rfl, ?_, fun base _ _ hb => ok_law T (hb (cA0, PA0) (by simp)) (hb (cA1, PA1) (by simp))⟩
  · intro p hp
    simp only [List.mem_cons, List.not_mem_nil, or_false] at hp
    rcases hp with rfl | rfl
    · exact hE "is_project" (by simp) f10 cA0 PA0 _ _ _ _ _ _ (PySem.W.mg_of X G a10) l10 rfl tA0 uA0 vA0
    · exact hE "is_yard" (by simp) f11 cA1 PA1 _ _ _ _ _ _ (PySem.W.mg_of X G a11) l11 rfl tA1 uA1 vA1
  · intro p hp
    simp only [List.mem_cons, List.not_mem_nil, or_false] at hp
    rcases hp with rfl | rfl
    · exact nA0
    · exact nA1
  · intro p hp
    simp only [List.mem_cons, List.not_mem_nil, or_false] at hp
    rcases hp with rfl | rfl
    · (obtain ⟨file, tf, flags, tg, inF, text, tt, h1, h2, h3, h4, h5, h6, h7⟩ := hA0; exact ⟨_, vsA0, file, tf, flags, tg, inF, text, tt, X _ _ uA0, h1, rfl, vA0, h2, h3, h4, h5, h6, h7⟩)
    · (obtain ⟨file, tf, flags, tg, inF, text, tt, h1, h2, h3, h4, h5, h6, h7⟩ := hA1; exact ⟨_, vsA1, file, tf, flags, tg, inF, text, tt, X _ _ uA1, h1, rfl, vA1, h2, h3, h4, h5, h6, h7⟩)
  · intro H a ns hl hT hS
    refine ⟨a, ns, rfl, hS, hl, fun t ht => ?_, fun _ => rfl⟩
    simp only [List.mem_cons, List.not_mem_nil, or_false] at ht
    rcases ht with ht | ht
    · rw [ht]; exact ⟨#[], hT (cA0, PA0) (by simp), trivial⟩
    · rw [ht]; exact ⟨#[], hT (cA1, PA1) (by simp), trivial⟩
end Jf
open PySem PySem.W PyProof.Rows
set_option maxRecDepth 100000 in
set_option maxHeartbeats 0 in
theorem PySem.Challenge.cw_onenumber_k62_projects_holds : PySem.Challenge.rw_onenumber_k62_projects.Holds := by
  w_on; o_law; k_head; (case hw => w_witness2)
  k_fill
  refine' Jf.walk_ofGL (l := PySem.Challenge.rw_onenumber_k62_projects) (n := 63) (k := 9) (x := "_law_script") (ys := ["is_project", "is_yard"]) (sp := Jf.spLaw) (PA := [_, _]) rfl (by decide) rfl ⟨rfl, by decide, by decide⟩ (by decide) (fun w h Y => PySem.W.kIn_of Y) ?F
  case F =>
    intro w mg fa h KX G hmg hE
    refine' Jf.all_mk KX G hmg hE ?a1 ?l1 ?c1 ?k1 ?a2 ?l2 ?c2 ?k2 ?a3 ?l3 ?c3 ?k3 ?a4 ?l4 ?c4 ?k4 ?a5 ?l5 ?c5 ?k5 ?a6 ?l6 ?c6 ?k6 ?a7 ?l7 ?c7 ?k7 ?a8 ?l8 ?c8 ?k8 ?a9 ?l9 ?c9 ?k9 ?a10 ?l10 ?c10 ?k10 ?a11 ?l11 ?c11 ?k11 ?a12 ?l12 ?c12 ?k12 ?a13 ?l13 ?c13 ?k13 ?a14 ?l14 ?c14 ?k14 ?a15 ?l15 ?c15 ?k15 ?a16 ?l16 ?c16 ?k16 ?a17 ?l17 ?c17 ?k17 ?a18 ?l18 ?c18 ?k18 ?a19 ?l19 ?c19 ?k19 ?a20 ?l20 ?c20 ?k20 ?a21 ?l21 ?c21 ?k21 ?a22 ?l22 ?c22 ?k22 ?a23 ?l23 ?c23 ?k23 ?a24 ?l24 ?c24 ?k24 ?a25 ?l25 ?c25 ?k25 ?a26 ?l26 ?c26 ?k26 ?a27 ?l27 ?c27 ?k27 ?a28 ?l28 ?c28 ?k28 ?a29 ?l29 ?c29 ?k29 ?a30 ?l30 ?c30 ?k30 ?a31 ?l31 ?c31 ?k31 ?a32 ?l32 ?c32 ?k32 ?a33 ?l33 ?c33 ?k33 ?a34 ?l34 ?c34 ?k34 ?a35 ?l35 ?c35 ?k35 ?a36 ?l36 ?c36 ?k36 ?a37 ?l37 ?c37 ?k37 ?a38 ?l38 ?c38 ?k38 ?a39 ?l39 ?c39 ?k39 ?z_abs ?z_all ?z_bool ?z_enumerate ?z_int ?z_isinstance ?z_len ?z_list ?z_max ?z_range ?z_repr ?z_reversed ?z_sum ?z_tuple ?z_gcd ?zN ?lN ?zZ ?lZ ?zO ?lO ?zMOST_DAYS ?zMOST_PROJECTS ?zMOST_DAYS_IN_ALL ?zVE ?zv ?zM_ ?iM_ ?lM_ ?cM_ ?xM_ ?z_BadProject ?i_BadProject ?l_BadProject ?c_BadProject ?k_BadProject ?x_BadProject ?z_BadShare ?i_BadShare ?l_BadShare ?c_BadShare ?k_BadShare ?x_BadShare ?tA0 ?uA0 ?vA0 ?nA0 ?hA0 ?tA1 ?uA1 ?vA1 ?nA1 ?hA1
    (case a1 => k_is)
    (case l1 => k_is)
    (case c1 => k_is)
    (case k1 => k_is)
    (case a2 => k_is)
    (case l2 => k_is)
    (case c2 => k_is)
    (case k2 => k_is)
    (case a3 => k_is)
    (case l3 => k_is)
    (case c3 => k_is)
    (case k3 => k_is)
    (case a4 => k_is)
    (case l4 => k_is)
    (case c4 => k_is)
    (case k4 => k_is)
    (case a5 => k_is)
    (case l5 => k_is)
    (case c5 => k_is)
    (case k5 => k_is)
    (case a6 => k_is)
    (case l6 => k_is)
    (case c6 => k_is)
    (case k6 => k_is)
    (case a7 => k_is)
    (case l7 => k_is)
    (case c7 => k_is)
    (case k7 => k_is)
    (case a8 => k_is)
    (case l8 => k_is)
    (case c8 => k_is)
    (case k8 => k_is)
    (case a9 => k_is)
    (case l9 => k_is)
    (case c9 => k_is)
    (case k9 => k_is)
    (case a10 => k_is)
    (case l10 => k_is)
    (case c10 => k_is)
    (case k10 => k_is)
    (case a11 => k_is)
    (case l11 => k_is)
    (case c11 => k_is)
    (case k11 => k_is)
    (case a12 => k_is)
    (case l12 => k_is)
    (case c12 => k_is)
    (case k12 => k_is)
    (case a13 => k_is)
    (case l13 => k_is)
    (case c13 => k_is)
    (case k13 => k_is)
    (case a14 => k_is)
    (case l14 => k_is)
    (case c14 => k_is)
    (case k14 => k_is)
    (case a15 => k_is)
    (case l15 => k_is)
    (case c15 => k_is)
    (case k15 => k_is)
    (case a16 => k_is)
    (case l16 => k_is)
    (case c16 => k_is)
    (case k16 => k_is)
    (case a17 => k_is)
    (case l17 => k_is)
    (case c17 => k_is)
    (case k17 => k_is)
    (case a18 => k_is)
    (case l18 => k_is)
    (case c18 => k_is)
    (case k18 => k_is)
    (case a19 => k_is)
    (case l19 => k_is)
    (case c19 => k_is)
    (case k19 => k_is)
    (case a20 => k_is)
    (case l20 => k_is)
    (case c20 => k_is)
    (case k20 => k_is)
    (case a21 => k_is)
    (case l21 => k_is)
    (case c21 => k_is)
    (case k21 => k_is)
    (case a22 => k_is)
    (case l22 => k_is)
    (case c22 => k_is)
    (case k22 => k_is)
    (case a23 => k_is)
    (case l23 => k_is)
    (case c23 => k_is)
    (case k23 => k_is)
    (case a24 => k_is)
    (case l24 => k_is)
    (case c24 => k_is)
    (case k24 => k_is)
    (case a25 => k_is)
    (case l25 => k_is)
    (case c25 => k_is)
    (case k25 => k_is)
    (case a26 => k_is)
    (case l26 => k_is)
    (case c26 => k_is)
    (case k26 => k_is)
    (case a27 => k_is)
    (case l27 => k_is)
    (case c27 => k_is)
    (case k27 => k_is)
    (case a28 => k_is)
    (case l28 => k_is)
    (case c28 => k_is)
    (case k28 => k_is)
    (case a29 => k_is)
    (case l29 => k_is)
    (case c29 => k_is)
    (case k29 => k_is)
    (case a30 => k_is)
    (case l30 => k_is)
    (case c30 => k_is)
    (case k30 => k_is)
    (case a31 => k_is)
    (case l31 => k_is)
    (case c31 => k_is)
    (case k31 => k_is)
    (case a32 => k_is)
    (case l32 => k_is)
    (case c32 => k_is)
    (case k32 => k_is)
    (case a33 => k_is)
    (case l33 => k_is)
    (case c33 => k_is)
    (case k33 => k_is)
    (case a34 => k_is)
    (case l34 => k_is)
    (case c34 => k_is)
    (case k34 => k_is)
    (case a35 => k_is)
    (case l35 => k_is)
    (case c35 => k_is)
    (case k35 => k_is)
    (case a36 => k_is)
    (case l36 => k_is)
    (case c36 => k_is)
    (case k36 => k_is)
    (case a37 => k_is)
    (case l37 => k_is)
    (case c37 => k_is)
    (case k37 => k_is)
    (case a38 => k_is)
    (case l38 => k_is)
    (case c38 => k_is)
    (case k38 => k_is)
    (case a39 => k_is)
    (case l39 => k_is)
    (case c39 => k_is)
    (case k39 => k_is)
    (case z_abs => k_is)
    (case z_all => k_is)
    (case z_bool => k_is)
    (case z_enumerate => k_is)
    (case z_int => k_is)
    (case z_isinstance => k_is)
    (case z_len => k_is)
    (case z_list => k_is)
    (case z_max => k_is)
    (case z_range => k_is)
    (case z_repr => k_is)
    (case z_reversed => k_is)
    (case z_sum => k_is)
    (case z_tuple => k_is)
    (case z_gcd => k_is)
    (case zN => k_is)
    (case lN => k_is)
    (case zZ => k_is)
    (case lZ => k_is)
    (case zO => k_is)
    (case lO => k_is)
    (case zMOST_DAYS => k_is)
    (case zMOST_PROJECTS => k_is)
    (case zMOST_DAYS_IN_ALL => k_is)
    (case zVE => k_is)
    (case zv => k_is)
    (case zM_ => k_is)
    (case iM_ => k_is)
    (case lM_ => k_is)
    (case cM_ => k_is)
    (case xM_ => kernel_rfl)
    (case z_BadProject => k_is)
    (case i_BadProject => k_is)
    (case l_BadProject => k_is)
    (case c_BadProject => k_is)
    (case k_BadProject => k_is)
    (case x_BadProject => kernel_rfl)
    (case z_BadShare => k_is)
    (case i_BadShare => k_is)
    (case l_BadShare => k_is)
    (case c_BadShare => k_is)
    (case k_BadShare => k_is)
    (case x_BadShare => kernel_rfl)
    (case tA0 => rfl)
    (case uA0 => k_is)
    (case vA0 => rfl)
    (case nA0 => rfl)
    (case hA0 => exact ⟨_, _, _, _, _, _, _, rfl, rfl, rfl, rfl, rfl, rfl, by decide⟩)
    (case tA1 => rfl)
    (case uA1 => k_is)
    (case vA1 => rfl)
    (case nA1 => rfl)
    (case hA1 => exact ⟨_, _, _, _, _, _, _, rfl, rfl, rfl, rfl, rfl, rfl, by decide⟩)
