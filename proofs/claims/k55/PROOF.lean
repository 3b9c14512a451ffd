import PyProof.Rows.All
import Wide.All
import OpenK.AllK
import Wide.FinOn
import HandS.ForMost
import HandS.Evl
import HandS.Gcd
import HandS.Wide
import HandS.Flow
import HandS.NoneIn
import HandS.IsInst
import HandS.Exc
import HandS.TryOnly
import HandS.ExcOwn
import HandS.WordsExc
import HandS.ExcInit
import HandS.ExcField
import HandS.ExcIs
import HandS.SetFor
import HandS.TupLe
import HandS.TryMany
import HandS.TupMul
import HandS.TupAny
import HandS.Style
import KE.KExcIs
import PyProof.ReprRoads
import HandS.AnyAll
import PyProof.WalksPairs
import PyProof.GenCompT
import PyProof.SumAny
import HandS.GenList
import KE.KTypeName
import PyProof.ListCopy
import KE.KRevSl
import HandS.Walk
import PyProof.EnumMake
import PyProof.TupleIter
import PySem.Challenge.RW_onenumber_k55_terms_of_forests
set_option Elab.async false
set_option linter.all false
/-! fractions as core rationals -/
namespace Jf
theorem gcd_pos {n d : Int} (hd : d ≠ 0) : 0 < Nat.gcd n.natAbs d.natAbs := Nat.gcd_pos_of_pos_right _ (by omega)
theorem low_split (n d : Int) (hd : d ≠ 0) : ∃ (g : Nat) (k m : Int), g = Nat.gcd n.natAbs d.natAbs ∧ 0 < g ∧ n = (g : Int) * k ∧ d = (g : Int) * m ∧ (Rat.divInt n d).num = d.sign * k ∧ ((Rat.divInt n d).den : Int) = d.sign * m := by
  have h1 : ((Nat.gcd n.natAbs d.natAbs : Nat) : Int) ∣ n := Int.ofNat_dvd_left.mpr (Nat.gcd_dvd_left _ _)
  have h2 : ((Nat.gcd n.natAbs d.natAbs : Nat) : Int) ∣ d := Int.ofNat_dvd_left.mpr (Nat.gcd_dvd_right _ _)
  obtain ⟨k, hk⟩ := h1
  obtain ⟨m, hm⟩ := h2
  have hp := gcd_pos (n := n) hd
  refine ⟨_, k, m, rfl, hp, hk, hm, ?_, ?_⟩
  · have hg : (d.gcd n : Nat) = Nat.gcd n.natAbs d.natAbs := by rw [Int.gcd_comm]; rfl
    rw [Rat.num_divInt, hg]
    generalize hG : Nat.gcd n.natAbs d.natAbs = G at *
    have hG0 : (G : Int) ≠ 0 := by omega
    rw [hk, ← Int.mul_assoc, Int.mul_comm d.sign (G : Int), Int.mul_assoc, Int.mul_ediv_cancel_left _ hG0]
  · have hg : (d.gcd n : Nat) = Nat.gcd n.natAbs d.natAbs := by rw [Int.gcd_comm]; rfl
    rw [Rat.den_divInt, if_neg hd, hg]
    generalize hG : Nat.gcd n.natAbs d.natAbs = G at *
    have hG0 : (G : Int) ≠ 0 := by omega
    have e : d.natAbs = G * m.natAbs := by rw [hm, Int.natAbs_mul]; rfl
    rw [e, Nat.mul_div_cancel_left _ hp]
    have hs : d.sign = m.sign := by rw [hm, Int.sign_mul, Int.sign_natCast_of_ne_zero (by omega), Int.one_mul]
    rw [hs, Int.sign_mul_self]
/-- the program's lowest -/
theorem lowest_eq (n d : Int) (hd : d ≠ 0) :
    n.fdiv (if d < 0 then -((Nat.gcd n.natAbs d.natAbs : Nat) : Int) else ((Nat.gcd n.natAbs d.natAbs : Nat) : Int)) = (Rat.divInt n d).num ∧
    d.fdiv (if d < 0 then -((Nat.gcd n.natAbs d.natAbs : Nat) : Int) else ((Nat.gcd n.natAbs d.natAbs : Nat) : Int)) = ((Rat.divInt n d).den : Int) := by
  obtain ⟨g, k, m, hg, hp, hn, hm, e1, e2⟩ := low_split n d hd
  rw [← hg, e1, e2]
  have hg0 : (g : Int) ≠ 0 := by omega
  by_cases h : d < 0
  · rw [if_pos h, Int.sign_eq_neg_one_of_neg h]
    have hn' : n = (-(g : Int)) * (-k) := by rw [hn]; grind
    have hm' : d = (-(g : Int)) * (-m) := by rw [hm]; grind
    have hg1 : (-(g : Int)) ≠ 0 := by omega
    constructor
    · rw [hn', Int.mul_fdiv_cancel_left _ hg1]; omega
    · rw [hm', Int.mul_fdiv_cancel_left _ hg1]; omega
  · rw [if_neg h, Int.sign_eq_one_of_pos (by omega)]
    constructor
    · rw [hn, Int.mul_fdiv_cancel_left _ hg0]; omega
    · rw [hm, Int.mul_fdiv_cancel_left _ hg0]; omega
/-- the law's low -/
theorem low_eq (n d : Int) (hd : d ≠ 0) (s : Int) (hs : s = if d < 0 then -1 else 1) :
    (s * n) / ((Nat.gcd n.natAbs d.natAbs : Nat) : Int) = (Rat.divInt n d).num ∧ (s * d) / ((Nat.gcd n.natAbs d.natAbs : Nat) : Int) = ((Rat.divInt n d).den : Int) := by
  obtain ⟨g, k, m, hg, hp, hn, hm, e1, e2⟩ := low_split n d hd
  rw [← hg, e1, e2]
  have hg0 : (g : Int) ≠ 0 := by omega
  have hs' : s = d.sign := by
    by_cases h : d < 0
    · rw [hs, if_pos h, Int.sign_eq_neg_one_of_neg h]
    · rw [hs, if_neg h, Int.sign_eq_one_of_pos (by omega)]
  rw [hs']
  constructor
  · rw [show d.sign * n = (g : Int) * (d.sign * k) by rw [hn]; grind, Int.mul_ediv_cancel_left _ hg0]
  · rw [show d.sign * d = (g : Int) * (d.sign * m) by
      generalize d.sign = z
      rw [hm]; grind, Int.mul_ediv_cancel_left _ hg0]
theorem num_le (n d : Int) (hd : d ≠ 0) : (Rat.divInt n d).num.natAbs ≤ n.natAbs := by
  obtain ⟨g, k, m, hg, hp, hn, hm, e1, e2⟩ := low_split n d hd
  have hs : d.sign.natAbs = 1 := by rw [Int.natAbs_sign, if_neg hd]
  rw [e1, Int.natAbs_mul, hs, hn, Int.natAbs_mul, Nat.one_mul]
  exact Nat.le_mul_of_pos_left _ (by omega)
theorem den_le (n d : Int) (hd : d ≠ 0) : (Rat.divInt n d).den ≤ d.natAbs := by
  obtain ⟨g, k, m, hg, hp, hn, hm, e1, e2⟩ := low_split n d hd
  have hs : d.sign.natAbs = 1 := by rw [Int.natAbs_sign, if_neg hd]
  have e3 : (Rat.divInt n d).den = m.natAbs := by
    have := congrArg Int.natAbs e2
    rw [Int.natAbs_mul, hs, Nat.one_mul] at this
    simpa using this
  rw [e3]
  have : d.natAbs = g * m.natAbs := by rw [hm, Int.natAbs_mul]; rfl
  rw [this]
  exact Nat.le_mul_of_pos_left _ (by omega)
theorem den_pos (q : Rat) : (0 : Int) < (q.den : Int) := by have := q.den_pos; omega
theorem den_ne (q : Rat) : (q.den : Int) ≠ 0 := by have := q.den_pos; omega
theorem add_eq (q r : Rat) : Rat.divInt (q.num * r.den + r.num * q.den) (q.den * r.den) = q + r := by
  rw [← Rat.divInt_add_divInt _ _ (den_ne q) (den_ne r), Rat.num_divInt_den, Rat.num_divInt_den]
theorem sub_eq (q r : Rat) : Rat.divInt (q.num * r.den - r.num * q.den) (q.den * r.den) = q - r := by
  rw [← Rat.divInt_sub_divInt _ _ (den_ne q) (den_ne r), Rat.num_divInt_den, Rat.num_divInt_den]
theorem mul_eq (q r : Rat) : Rat.divInt (q.num * r.num) (q.den * r.den) = q * r := by
  rw [← Rat.divInt_mul_divInt, Rat.num_divInt_den, Rat.num_divInt_den]
theorem div_eq (q r : Rat) : Rat.divInt (q.num * r.den) (q.den * r.num) = q / r := by
  rw [Rat.div_def, Rat.inv_def, ← Rat.divInt_mul_divInt, Rat.num_divInt_den]
theorem num_ne {r : Rat} (h : r ≠ 0) : r.num ≠ 0 := fun e => h (Rat.num_eq_zero.mp e)
theorem red (q : Rat) : Nat.gcd q.num.natAbs (q.den : Int).natAbs = 1 := by
  have := q.reduced
  simpa [Nat.Coprime] using this
/-- compare -/
def cmp (q r : Rat) : Int := if q = r then 0 else if r < q then 1 else -1
theorem cmp_eq (q r : Rat) : (if (q - r).num = 0 then (0 : Int) else if 0 < (q - r).num then 1 else -1) = cmp q r := by
  unfold cmp
  have e : (q - r).num = 0 ↔ q = r := by
    rw [Rat.num_eq_zero]
    constructor <;> intro h <;> grind
  by_cases h : q = r
  · rw [if_pos (e.mpr h), if_pos h]
  · rw [if_neg (fun z => h (e.mp z)), if_neg h]
    have e2 : 0 < (q - r).num ↔ r < q := by
      have h1 : (0 : Int) ≤ (q - r).num ↔ 0 ≤ q - r := Rat.num_nonneg
      have h2 : (q - r).num ≠ 0 := fun z => h (e.mp z)
      constructor
      · intro z
        have := h1.mp (by omega)
        grind
      · intro z
        have : 0 ≤ q - r := by grind
        have := h1.mpr this
        omega
    by_cases z : r < q
    · rw [if_pos z, if_pos (e2.mpr z)]
    · rw [if_neg z, if_neg (fun y => z (e2.mp y))]
/-! bounds by powers of two -/
theorem lt_pow_mul {a b m n : Nat} (ha : a < 2 ^ m) (hb : b < 2 ^ n) : a * b < 2 ^ (m + n) := by
  rw [Nat.pow_add]
  exact Nat.mul_lt_mul'' ha hb
theorem lt_pow_add {a b n : Nat} (ha : a < 2 ^ n) (hb : b < 2 ^ n) : a + b < 2 ^ (n + 1) := by
  rw [Nat.pow_succ]; omega
theorem lt_pow_mono {a m n : Nat} (h : m ≤ n) (ha : a < 2 ^ m) : a < 2 ^ n := Nat.lt_of_lt_of_le ha (Nat.pow_le_pow_right (by decide) h)
theorem abs_add_le (a b : Int) : (a + b).natAbs ≤ a.natAbs + b.natAbs := by omega
theorem abs_sub_le (a b : Int) : (a - b).natAbs ≤ a.natAbs + b.natAbs := by omega
/-- a fraction within b bits -/
def Bd (b : Nat) (q : Rat) : Prop := q.num.natAbs < 2 ^ b ∧ q.den < 2 ^ b
theorem Bd.mono {b c : Nat} {q : Rat} (h : b ≤ c) (x : Bd b q) : Bd c q := ⟨lt_pow_mono h x.1, lt_pow_mono h x.2⟩
theorem bd_divInt {n d : Int} {b : Nat} (hd : d ≠ 0) (hn : n.natAbs < 2 ^ b) (hb : d.natAbs < 2 ^ b) : Bd b (Rat.divInt n d) :=
  ⟨Nat.lt_of_le_of_lt (num_le n d hd) hn, Nat.lt_of_le_of_lt (den_le n d hd) hb⟩
theorem bn_mul {i j : Int} {a b : Nat} (ha : i.natAbs < 2 ^ a) (hb : j.natAbs < 2 ^ b) : (i * j).natAbs < 2 ^ (a + b) := by
  rw [Int.natAbs_mul]
  exact lt_pow_mul ha hb
theorem bn_add {i j : Int} {a : Nat} (ha : i.natAbs < 2 ^ a) (hb : j.natAbs < 2 ^ a) : (i + j).natAbs < 2 ^ (a + 1) :=
  Nat.lt_of_le_of_lt (abs_add_le i j) (lt_pow_add ha hb)
theorem bn_sub {i j : Int} {a : Nat} (ha : i.natAbs < 2 ^ a) (hb : j.natAbs < 2 ^ a) : (i - j).natAbs < 2 ^ (a + 1) :=
  Nat.lt_of_le_of_lt (abs_sub_le i j) (lt_pow_add ha hb)
theorem bd_den {q : Rat} {b : Nat} (x : Bd b q) : (q.den : Int).natAbs < 2 ^ b := by
  have := x.2
  simpa using this
/-! Euclid's steps end -/
def euc : Nat → Nat → Nat → Nat × Nat
  | 0, a, b => (a, b)
  | n + 1, a, b => euc n b (a % b)
theorem mod_half {a b : Nat} (hb : 0 < b) (h : b ≤ a) : 2 * (a % b) < a := by
  have h1 : a % b < b := Nat.mod_lt _ hb
  have h2 := Nat.div_add_mod a b
  have h3 : 1 ≤ a / b := Nat.div_pos h hb
  have h4 : b * 1 ≤ b * (a / b) := Nat.mul_le_mul_left b h3
  omega
/-- one step halves the product once b is at most a -/
theorem step_half {a b n : Nat} (hb : 0 < b) (h : b ≤ a) (hp : a * b < 2 ^ (n + 1)) : b * (a % b) < 2 ^ n := by
  have h1 := mod_half hb h
  have h2 : b * (2 * (a % b)) ≤ b * a := Nat.mul_le_mul_left b (Nat.le_of_lt h1)
  rw [Nat.pow_succ] at hp
  have h3 : b * (2 * (a % b)) = 2 * (b * (a % b)) := Nat.mul_left_comm _ _ _
  have h4 : b * a = a * b := Nat.mul_comm _ _
  omega
/-- where one is with n steps left: small enough to end -/
def EucEnds (n a b : Nat) : Prop := b = 0 ∨ (b ≤ a ∧ 1 ≤ n ∧ a * b < 2 ^ (n - 1)) ∨ (2 ≤ n ∧ a * b < 2 ^ (n - 2))
theorem EucEnds.step {n a b : Nat} (hb : b ≠ 0) (h : EucEnds (n + 1) a b) : EucEnds n b (a % b) := by
  have hb0 : 0 < b := Nat.pos_of_ne_zero hb
  have hlt : a % b < b := Nat.mod_lt _ hb0
  rcases h with h | ⟨h1, h2, h3⟩ | ⟨h2, h3⟩
  · exact absurd h hb
  · cases n with
    | zero =>
      have : a * b < 1 := h3
      have h5 : 0 < a * b := Nat.mul_pos (Nat.lt_of_lt_of_le hb0 h1) hb0
      omega
    | succ n =>
      refine .inr (.inl ⟨Nat.le_of_lt hlt, by omega, ?_⟩)
      exact step_half hb0 h1 h3
  · have h6 : b * (a % b) ≤ a * b := by
      rw [Nat.mul_comm]
      exact Nat.mul_le_mul_right b (Nat.mod_le a b)
    refine .inr (.inl ⟨Nat.le_of_lt hlt, by omega, ?_⟩)
    exact Nat.lt_of_le_of_lt h6 (by simpa using h3)
theorem EucEnds.zero {a b : Nat} (h : EucEnds 0 a b) : b = 0 := by
  rcases h with h | ⟨_, h, _⟩ | ⟨h, _⟩ <;> omega
theorem gcd_step {a b g : Nat} (h : Nat.gcd a b = g) : Nat.gcd b (a % b) = g := by
  rw [← h, Nat.gcd_comm a b, Nat.gcd_rec b a, Nat.gcd_comm]
theorem gcd_end {a g : Nat} (h : Nat.gcd a 0 = g) : a = g := by rw [← h, Nat.gcd_zero_right]
end Jf
set_option Elab.async false
set_option linter.all false
namespace Jf
theorem cmp_64 (q r : Rat) : (cmp q r).natAbs < 2 ^ 64 := by
  have : (cmp q r).natAbs ≤ 1 := by unfold cmp; split <;> (try split) <;> decide
  exact Nat.lt_of_le_of_lt this (by decide)
theorem cmp_anti (q r : Rat) : cmp q r = 0 - cmp r q := by unfold cmp; grind
theorem cmp_add (q r s : Rat) : cmp (q + s) (r + s) = cmp q r := by unfold cmp; grind
theorem cmp_sub (q r : Rat) : cmp (q - r) 0 = cmp q r := by unfold cmp; grind
theorem cmp_zero (q r : Rat) : cmp q r = 0 ↔ q = r := by unfold cmp; grind
theorem cmp_trans {q r s : Rat} (h1 : 0 ≤ cmp q r) (h2 : 0 ≤ cmp r s) : ¬ cmp q s < 0 := by unfold cmp at *; grind
theorem cmp_mul (q r s : Rat) : cmp (q * s) (r * s) = cmp q r * cmp s 0 := by
  unfold cmp
  by_cases h : q = r
  · subst h; simp
  · by_cases h0 : s = 0
    · subst h0; simp
    · have e1 : (q - r) * s ≠ 0 := by
        intro e
        rcases Rat.mul_eq_zero.mp e with e | e <;> grind
      have ne : ¬ q * s = r * s := by grind
      rw [if_neg ne, if_neg h, if_neg h0]
      by_cases hs : 0 < s
      · by_cases hq : r < q
        · have := Rat.mul_pos (show 0 < q - r by grind) hs
          grind
        · have := Rat.mul_pos (show 0 < r - q by grind) hs
          grind
      · by_cases hq : r < q
        · have := Rat.mul_pos (show 0 < q - r by grind) (show 0 < -s by grind)
          grind
        · have := Rat.mul_pos (show 0 < r - q by grind) (show 0 < -s by grind)
          grind
theorem six (q : Rat) : Rat.divInt (q.num * 6) (q.den * 6) = q := by
  rw [← Rat.divInt_mul_divInt, Rat.num_divInt_den, Rat.divInt_self' (by decide), Rat.mul_one]
theorem negs (q : Rat) : Rat.divInt (0 - q.num) (0 - q.den) = q := by
  rw [show 0 - q.num = q.num * (-1) by omega, show (0 : Int) - q.den = q.den * (-1) by omega, ← Rat.divInt_mul_divInt, Rat.num_divInt_den, Rat.divInt_self' (by decide), Rat.mul_one]
theorem r_assoc (a b c : Rat) : a + b + c = a + (b + c) := by grind
theorem r_massoc (a b c : Rat) : a * b * c = a * (b * c) := by grind
theorem r_dist (a b c : Rat) : a * (b + c) = a * b + a * c := by grind
theorem r_addsub (a b : Rat) : a + b - b = a := by grind
theorem r_subadd (a b : Rat) : a - b + b = a := by grind
theorem r_divmul (a b : Rat) (h : b ≠ 0) : a / b * b = a := by grind
theorem r_muldiv (a b : Rat) (h : b ≠ 0) : a * b / b = a := by grind
end Jf
set_option Elab.async false
set_option linter.all false
set_option maxRecDepth 100000
set_option maxHeartbeats 4000000
namespace Jf
open PySem PySem.Spec PyProof.Rows L2 Evl
/-- a def of the text behind the top -/
structure FT (K : PySem.W.Frag) (mg : Str → Option Value) (x : Str) (st : Stmt) (ps : List Str) where
  a : Addr
  fd : FuncData
  F : Fun K x x st a fd
  b : Binds K fd ps []
  g : mg x = some (.ref a)
/-- // by a divisor that is not 0, below 2 ^ 9000 in size -/
def CDivZ (_ j : Int) : Prop := j ≠ 0 ∧ j.natAbs.log2 < 9000
theorem op_fdivZ {X : Cx} : OpR X (binaryOp .FloorDiv) (rI CDivZ fun i j => .int (i.fdiv j)) := opI fun i j _ _ _ _ _ hc q =>
  floordiv_int hc.1 q (.inl (PyProof.noPylong_of_log2 hc.2))
theorem log_lt {j : Nat} {b c : Nat} (h : j < 2 ^ b) (hc : b ≤ c) (h0 : 0 < c) : j.log2 < c :=
  Nat.lt_of_lt_of_le (PySem.Flt.log2_lt_of h0 (lt_pow_mono hc h)) (Nat.le_refl _)
theorem mulW {i j : Int} {a b : Nat} (ha : i.natAbs < 2 ^ a) (hb : j.natAbs < 2 ^ b) (h : a + b ≤ 900000) : CMulW i j :=
  wide_mul (lt_pow_mono (Nat.le_succ a) ha) (lt_pow_mono (Nat.le_succ b) hb) (Nat.succ_pos _) (Nat.succ_pos _) (by omega)

/-! ### what evaluates to a value of a kind -/
def EvP (te : TE) (σ : L2.St) (H : Hp) (P : V → Hp → Prop) : Prop := ∀ H1, Ex H H1 → ∀ Q : VK, (∀ v H2, Ex H1 H2 → P v H2 → Q v H2) → te σ H1 Q
/-- a fraction of at most b bits stands at v -/
def Fr (K : PySem.W.Frag) (b : Nat) (q : Rat) (v : V) (H : Hp) : Prop := ∃ p, v = .ref p ∧ SqT K H p [.int q.num, .int (q.den : Int)] ∧ Bd b q
section
variable {K : PySem.W.Frag} {σ : L2.St} {H H' : Hp} {te ta tb : TE} {P : V → Hp → Prop} {v : V} {b c n : Nat} {q r : Rat}
theorem Fr.ex (e : Ex H H') (h : Fr K b q v H) : Fr K b q v H' := by
  obtain ⟨p, rfl, h, x⟩ := h
  exact ⟨p, rfl, ex_t e h, x⟩
theorem Fr.mono (e : b ≤ c) (h : Fr K b q v H) : Fr K c q v H := by
  obtain ⟨p, rfl, h, x⟩ := h
  exact ⟨p, rfl, h, x.mono e⟩
theorem Fr.bd (h : Fr K b q v H) : Bd b q := h.choose_spec.2.2
theorem EvP.mono (e : Ex H H') (h : EvP te σ H P) : EvP te σ H' P := fun H1 a Q q => h H1 (e.trans a) Q q
theorem ep_var {i : Nat} (h : σ[i]? = some (some v)) (hf : Fr K b q v H) : EvP (tVar i) σ H (Fr K b q) := fun H1 e _ k => ⟨v, h, k v H1 (Ex.refl H1) (hf.ex e)⟩
theorem ep_mono (h : EvP te σ H (Fr K b q)) (e : b ≤ c) : EvP te σ H (Fr K c q) := fun H1 a Q k => h H1 a Q fun v H2 e2 f => k v H2 e2 (f.mono e)
theorem ep_is (h : EvP te σ H (Fr K b q)) (e : q = r) : EvP te σ H (Fr K b r) := e ▸ h
theorem ev_0 (h : EvP te σ H (Fr K b q)) : Ev (tOp (rIxT K) te (tC (.int 0))) σ H (.int q.num) := fun H1 a Q k => h H1 a _ fun v H2 e2 f => by
  obtain ⟨p, rfl, f, _⟩ := f
  exact ⟨p, _, 0, .int q.num, rfl, rfl, f, rfl, k H2 e2⟩
theorem ev_1 (h : EvP te σ H (Fr K b q)) : Ev (tOp (rIxT K) te (tC (.int 1))) σ H (.int (q.den : Int)) := fun H1 a Q k => h H1 a _ fun v H2 e2 f => by
  obtain ⟨p, rfl, f, _⟩ := f
  exact ⟨p, _, 1, .int (q.den : Int), rfl, rfl, f, rfl, k H2 e2⟩
/-- a new pair of ints that are a fraction's -/
theorem ep_tup {x y : Int} (ha : Ev ta σ H (.int x)) (hb : Ev tb σ H (.int y)) (e1 : x = q.num) (e2 : y = (q.den : Int)) (bd : Bd b q) : EvP (tTup (tCons ta (tCons tb tNil))) σ H (Fr K b q) := fun H1 a Q k =>
  ha H1 a _ fun H2 a2 => hb H2 (a.trans a2) _ fun H3 a3 => ⟨by show 2 ≤ sizeLine; decide, fun p hp => k _ _ ((a2.trans a3).trans (Ex.new hp)) ⟨p, rfl, by subst e1 e2; exact SqT.of upd_same, bd⟩⟩
theorem ev_mulW {x y : Int} (ha : Ev ta σ H (.int x)) (hb : Ev tb σ H (.int y)) (h : CMulW x y) : Ev (tOp (rI CMulW fun i j => .int (i * j)) ta tb) σ H (.int (x * y)) := ev_op ha hb (rv_I h)
theorem ev_add {x y : Int} (ha : Ev ta σ H (.int x)) (hb : Ev tb σ H (.int y)) : Ev (tOp (rI0 fun i j => .int (i + j)) ta tb) σ H (.int (x + y)) := ev_op ha hb rv_I0
theorem ev_sub {x y : Int} (ha : Ev ta σ H (.int x)) (hb : Ev tb σ H (.int y)) : Ev (tOp (rI0 fun i j => .int (i - j)) ta tb) σ H (.int (x - y)) := ev_op ha hb rv_I0
theorem ev_fdivZ {x y : Int} (ha : Ev ta σ H (.int x)) (hb : Ev tb σ H (.int y)) (h : CDivZ x y) : Ev (tOp (rI CDivZ fun i j => .int (i.fdiv j)) ta tb) σ H (.int (x.fdiv y)) := ev_op ha hb (rv_I h)
theorem ev_neg {x : Int} (ha : Ev ta σ H (.int x)) : Ev (tUn (rU fun i => .int (-i)) ta) σ H (.int (-x)) := ev_un ha ru_neg
theorem s_retP {D : Ends} (h : EvP te σ H P) (k : ∀ v H1, Ex H H1 → P v H1 → D.rt v H1) : tRet te D σ H := h H (Ex.refl H) _ k
theorem s_asgP {D : Ends} {i : Nat} (h : EvP te σ H P) (k : ∀ v H1, Ex H H1 → P v H1 → D.nx (σ.set i (some v)) H1) : tAsg te (gName i) D σ H := h H (Ex.refl H) _ k
theorem s_dropP {D : Ends} (h : EvP te σ H P) (k : ∀ v H1, Ex H H1 → P v H1 → D.nx σ H1) : tDrop te D σ H := h H (Ex.refl H) _ k

/-! ### deep equality of two fractions -/
theorem Fr.dp (h : Fr K b q v H) : Dp K H v (.tuple [.int q.num, .int (q.den : Int)]) := by
  obtain ⟨p, rfl, h, _⟩ := h
  exact .tup h (.cons (.int _) (.cons (.int _) .nil))
theorem eqv_fr (q r : Rat) : PyData.eqv (.tuple [.int q.num, .int (q.den : Int)]) (.tuple [.int r.num, .int (r.den : Int)]) = decide (q = r) := by
  simp only [PyData.eqv, PyData.eqvAll, Bool.and_true]
  have e : q = r ↔ q.num = r.num ∧ (q.den : Int) = (r.den : Int) := by
    constructor
    · rintro rfl
      exact ⟨rfl, rfl⟩
    · rintro ⟨h1, h2⟩
      exact Rat.ext h1 (by omega)
  rw [Bool.eq_iff_iff]
  simp [e]
theorem ev_neD (ha : EvP ta σ H (Fr K b q)) (hb : EvP tb σ H (Fr K c r)) : Ev (tOp (rNeD K) ta tb) σ H (.bl (!decide (q = r))) := fun H1 a Q k =>
  ha H1 a _ fun x H2 a2 f => hb H2 (a.trans a2) _ fun y H3 a3 g => ⟨_, _, (f.ex a3).dp, g.dp, rfl, rfl, by
    rw [eqv_fr]
    exact k H3 (a2.trans a3)⟩
theorem ev_eqD (ha : EvP ta σ H (Fr K b q)) (hb : EvP tb σ H (Fr K c r)) : Ev (tOp (rEqD K) ta tb) σ H (.bl (decide (q = r))) := fun H1 a Q k =>
  ha H1 a _ fun x H2 a2 f => hb H2 (a.trans a2) _ fun y H3 a3 g => ⟨_, _, (f.ex a3).dp, g.dp, rfl, rfl, by
    rw [eqv_fr]
    exact k H3 (a2.trans a3)⟩

/-! ### a def of two fractions -/
/-- op q r, of b + c + 1 bits at most -/
def sp2 (K : PySem.W.Frag) (ok : Rat → Prop) (f : Rat → Rat → Rat) : Sp := fun vs H Q _ => ∃ (u v : V) (b c : Nat) (q r : Rat), vs = [u, v] ∧ Fr K b q u H ∧ Fr K c r v H ∧ b + c + 1 ≤ 8000 ∧ ok r ∧
  ∀ z H', Ex H H' → Fr K (b + c + 1) (f q r) z H' → Q z H'
theorem ep_2 {ok : Rat → Prop} {f : Rat → Rat → Rat} {E : XK} (ha : EvP ta σ H (Fr K b q)) (hb : EvP tb σ H (Fr K c r)) (hk : ok r) (hl : b + c + 1 ≤ 8000) (hn : b + c + 1 = n) : EvP (tCall (sp2 K ok f) [] E (tCons ta (tCons tb tNil))) σ H (Fr K n (f q r)) := fun H1 a Q k =>
  ha H1 a _ fun x H2 a2 g => hb H2 (a.trans a2) _ fun y H3 a3 h => ⟨x, y, b, c, q, r, rfl, g.ex a3, h, hl, hk, fun z H' e w => k z H' ((a2.trans a3).trans e) (by subst hn; exact w)⟩
/-- compare -/
def spC (K : PySem.W.Frag) : Sp := fun vs H Q _ => ∃ (u v : V) (b c : Nat) (q r : Rat), vs = [u, v] ∧ Fr K b q u H ∧ Fr K c r v H ∧ b + c + 1 ≤ 8000 ∧ ∀ H', Ex H H' → Q (.int (cmp q r)) H'
theorem ev_C {E : XK} (ha : EvP ta σ H (Fr K b q)) (hb : EvP tb σ H (Fr K c r)) (hl : b + c + 1 ≤ 8000) : Ev (tCall (spC K) [] E (tCons ta (tCons tb tNil))) σ H (.int (cmp q r)) := fun H1 a Q k =>
  ha H1 a _ fun x H2 a2 g => hb H2 (a.trans a2) _ fun y H3 a3 h => ⟨x, y, b, c, q, r, rfl, g.ex a3, h, hl, fun H' e => k H' ((a2.trans a3).trans e)⟩
/-- is_fraction of a fraction; require_fraction of one -/
def spIs (K : PySem.W.Frag) (x : V) : Sp := fun vs H Q _ => ∃ (u : V) (b : Nat) (q : Rat), vs = [u] ∧ Fr K b q u H ∧ ∀ H', Ex H H' → Q x H'
theorem ev_Is {E : XK} {x : V} (ha : EvP ta σ H (Fr K b q)) : Ev (tCall (spIs K x) [] E (tCons ta tNil)) σ H x := fun H1 a Q k =>
  ha H1 a _ fun u H2 a2 g => ⟨u, b, q, rfl, g, fun H' e => k H' (a2.trans e)⟩
/-- lowest, fraction of two ints -/
def spLow (K : PySem.W.Frag) : Sp := fun vs H Q _ => ∃ (n d : Int) (b : Nat), vs = [.int n, .int d] ∧ d ≠ 0 ∧ n.natAbs < 2 ^ b ∧ d.natAbs < 2 ^ b ∧ b ≤ 8000 ∧ ∀ z H', Ex H H' → Fr K b (Rat.divInt n d) z H' → Q z H'
theorem ep_Low {E : XK} {x y : Int} (ha : Ev ta σ H (.int x)) (hb : Ev tb σ H (.int y)) (hd : y ≠ 0) (hx : x.natAbs < 2 ^ b) (hy : y.natAbs < 2 ^ b) (hl : b ≤ 8000) (hq : Rat.divInt x y = q) : EvP (tCall (spLow K) [] E (tCons ta (tCons tb tNil))) σ H (Fr K b q) := fun H1 a Q k =>
  ha H1 a _ fun H2 a2 => hb H2 (a.trans a2) _ fun H3 a3 => ⟨x, y, b, rfl, hd, hx, hy, hl, fun z H' e w => k z H' ((a2.trans a3).trans e) (by subst hq; exact w)⟩
/-- of any int whether it is one; require_whole -/
def spWhole (x : V) : Sp := fun vs H Q _ => ∃ n : Int, vs = [.int n] ∧ ∀ H', Ex H H' → Q x H'
theorem ev_Whole {E : XK} {x : V} {n : Int} (ha : Ev ta σ H (.int n)) : Ev (tCall (spWhole x) [] E (tCons ta tNil)) σ H x := fun H1 a Q k =>
  ha H1 a _ fun H2 a2 => ⟨n, rfl, fun H' e => k H' (a2.trans e)⟩
end
end Jf
set_option Elab.async false
set_option linter.all false
set_option maxRecDepth 100000
set_option maxHeartbeats 4000000
namespace Jf
open PySem PySem.Spec PyProof.Rows L2 Evl
/-! ### defs that show data: no list or tuple is being shown when they are called -/
structure FnG (P : Program) (w : World) (K : PySem.W.Frag) (mg : Str → Option Value) (base : Heap) (k : Nat) (f : Addr) (fd : FuncData) (ps : List Str) (sp : Sp) : Prop where
  size : ∀ vs H Q E, sp vs H Q E → vs.length = ps.length
  go : ∀ (A : Around) (outer : List Env) (s : Shared) (H : Hp) (args : Args) (us : List Value) (vs : List V) (Q : VK), A.guards = some [] → Room k A →
    Env0 P w K mg base A outer s H → BindsTo s fd args (ps.zip us) → Vals vs us → sp vs H Q E0 → codeAny (model P w) A (.call (.ref f) args) (CR CX0 outer P w H s Q E0) s
section
variable {X : Cx} {k : Nat} {f : Addr} {fd : FuncData} {ps : List Str} {sp : Sp} {x : Str} {p pos : Pos} {e : Expr} {es : List Expr} {t : TA}
/-- f(e, ..) of such a def -/
theorem pe_callG (F : FnG X.prog X.w X.K X.mg X.base k f fd ps sp) (gd : X.A.guards = some []) (hr : Room k X.A) (hg : Gl X x) (hm : X.mg x = some (.ref f)) (hk : PySem.W.keepIn X.K (.ref f) = true) (hb : Binds X.K fd ps [])
    (ha : PA X (e :: es) t) (hdb : (x == ("__debug__" : Str)) = false := by decide)
    (he : starEach (e :: es) X.env = (false, eval e X.env) :: starEach es X.env := by rfl)
    (hpl : (backTo pos (starEach es X.env)).any (·.1) = false := by rfl) : PE X (.Call (.Name x p) (e :: es) [] pos) (tCall sp [] E0 t) := by
  constructor
  intro pins s σ H Q I h
  apply wpAny_Call_Name_kw
  apply ld_glob I hg hm _ hdb
  apply PySem.W.callWith_K (h₀ := X.base) I.ok.mod.kin hk _ he hpl
  apply thn (ha.run pos pins s σ H _ I h)
  rintro us s1 ⟨vs, H1, I1, r, q⟩
  refine ⟨I1.kIn, ?_⟩
  have q' : sp vs H1 Q E0 := by
    have z := q
    rw [List.append_nil] at z
    exact z
  have hz : us.length = ps.length := r.length ▸ F.size _ _ _ _ q'
  have bt := hb s1 us I1.kIn (by simpa using hz)
  rw [List.append_nil] at bt
  apply wpAny_call
  apply codeAny_mono (F.go X.A X.stack s1 H1 ⟨us, []⟩ us vs Q gd hr I1.env0 bt r q')
  intro res s' hq
  match res, hq with
  | .ok (.ret u), hq => exact I1.after hq
  | .error _, hq => exact False.elim hq
end
section
variable {P : Program} {w : World} {K : PySem.W.Frag} {mg : Str → Option Value} {base : Heap}
/-- such a def, by its body -/
theorem okG {x qual : Str} {st : Stmt} {f : Addr} {fd : FuncData} {N ps : List Str} {k : Nat} {sp : Sp} (F : Fun K x qual st f fd) (S : FnScope N ps (defScope st)) (len : ∀ vs H Q E, sp vs H Q E → vs.length = ps.length)
    (body : ∀ (cdv : Value) (A : Around) (outer : List Env) (s : Shared) (H : Hp) (vs : List V) (Q : VK), A.guards = some [] → Room k (A.deeper (envOfC qual (defScope st) s.heap.objs.size f cdv)) → sp vs H Q E0 →
      ∃ t, PSs (cxOf CX0 P w K mg base N qual (defScope st) f cdv A outer s H E0).nox (defBody st) t ∧ t { nx := fun _ H' => Q .non H', rt := Q } (start N vs) H) :
    FnG P w K mg base (k + 1) f fd ps sp := by
  obtain ⟨oc, od, kV, doc, pm, an, cdv, ct, osl, rfl, lk, hcd⟩ := F.ex
  constructor
  · exact len
  intro A outer s H args us vs Q gd hr e0 hb r hsp
  have here : ∀ b o, base.get? b = some o → s.heap.get? b = some o := fun b o e => (e0.bs b o e).1
  have KX : K.In s.heap := e0.mod.kin.keeps here
  have par : ∀ y ∈ ps.zip us, (defScope st).names.lookup y.1 = some .local ∨ ((defScope st).names.lookup y.1 = some .cell ∧ ((cellsFrom (s.heap.objs.size + 1) (defScope st).names []).lookup y.1).isSome = true) := by
    rintro ⟨n, v⟩ hy
    have q := S.par n (List.of_mem_zip hy).1
    exact q.imp id fun z => ⟨z, PySem.W.cellsFrom_some _ _ _ (.inl z)⟩
  apply codeAny_call_function hr.depth (KX _ _ lk) rfl S.co S.gen rfl (PySem.W.codeRec_of KX hcd)
  apply hb
  apply wpAny_newFunctionEnv_cells S.kind par
  intro env he s1 ic
  subst he
  refine ⟨(e0.mod.nolimit.keeps here).keeps ic.toInCall.keep, codeAny_func ?_⟩
  obtain ⟨t, ht, hq⟩ := body cdv A outer s H vs Q gd (hr.deeper _) hsp
  have I0 := inv_start (CX := CX0) (E := E0) S hr.hd e0 (len _ _ _ _ hsp) r ic
  apply wpAny_mono (ht.nox.run [] s1 (start N vs) H _ I0 hq)
  · intro fl s' hs
    match fl, hs with
    | .ret u, ⟨v, σ', H', J, rv, q⟩ => exact ⟨v, H', J.os, J.bare, J.base, J.hok, rv, q⟩
    | .next, ⟨σ', H', J, q⟩ => exact ⟨V.non, H', J.os, J.bare, J.base, J.hok, rfl, q⟩
    | .brk, ⟨_, _, _, q⟩ => exact False.elim q
    | .cont, ⟨_, _, _, q⟩ => exact False.elim q
  · intro e s' hs
    exact hs
end
/-! ### isinstance of the error that a suite holds, its own dict read -/
/-- what its class must say -/
structure ErrC (K : PySem.W.Frag) (C : Addr) : Prop where
  cl : (PySem.W.clsIn K C).isSome = true
  ga : PySem.W.findIn K (.ref C) "__getattribute__" = some (some (.builtin "BaseException.__getattribute__"))
  gg : PySem.W.findIn K (.ref C) "__getattr__" = some none
  ex : PySem.W.subIn K (.ref C) (.type "BaseException") = some true
  hd : PySem.W.hasDictIn K C = true
  kc : PySem.W.findIn K (.ref C) "__class__" = some (some (.builtin "object.__class__"))
  sp : PySem.W.specialIn K (.builtin "object.__class__") "__get__" = some (some (.builtin "getset_descriptor.__get__"))
  tk : PySem.W.takesIn K (.builtin "object.__class__") = some true
  mo : PySem.W.mroIn K C (.type "object") = some true
def rIsD (K : PySem.W.Frag) (a : Addr) (cls : Value) (d : Option Addr) : List V → Hp → VK → Prop := fun xs H Q => ∃ (C B dd : Addr) (fs : List (Str × V)) (b : Bool), xs = [.ref a, .ref B] ∧ cls = .ref C ∧ ErrC K C ∧ d = some dd ∧ H dd = some (.xd fs) ∧ PySem.W.kitOne K (.ref C) (.ref B) = some b ∧ Q (.bl b) H
theorem call_isD {X : Cx} {a : Addr} {oe : Obj} {cls : Value} {d : Option Addr} {pn : List (Addr × Obj)} (hz : Zc cls d oe) (hf : ∃ vs, oe.data = .fields vs) : CallR (X.suite a ((a, oe) :: pn)) (.builtin "isinstance") (rIsD X.K a cls d) := by
  intro pins s σ H xs us Q I r h
  obtain ⟨C, B, dd, fs, b, rfl, rfl, T, rfl, ed, hk, q⟩ := h
  cases r with
  | cons rx rr =>
    cases rr with
    | cons rt rr =>
      cases rr
      cases rx
      cases rt
      have hget := (I.pin (a, oe) (List.mem_append_left _ List.mem_cons_self)).1
      obtain ⟨vs, hv⟩ := hf
      have hx : ObjOk X.prog X.w H s.heap dd (.xd fs) := I.hok dd _ ed
      obtain ⟨mA, hns, _⟩ := hx
      obtain ⟨od, ho, _⟩ := lookIn_ns hns
      have J : PySem.W.InstAt s.heap a oe C (some od) := by
        refine ⟨hget, hz.1, ?_, ?_⟩
        · unfold PySem.W.notCls
          rw [hv] <;> rfl
        · rw [hz.2]
          exact ho
      refine PySem.W.kia_one (PySem.W.kitx_exc T.cl T.ga T.gg T.ex T.kc T.sp T.tk T.mo) I.kIn J hk (fun z => nomatch z) ?_
      intro tk
      exact ⟨.bl b, H, I.kept (t' := tk) fun _ _ z => z, rfl, q⟩
/-! ### repr -/
/-- a list that is written out: it isn't at sys.modules -/
def tLstN (t : TA) : TE := fun σ H Q => t σ H fun xs H1 => xs.length ≤ sizeLine ∧ ∀ p, H1 p = none → p ≠ sysModules → Q (.ref p) (upd H1 p (.lst xs))
theorem pe_lstN {X : Cx} {es : List Expr} {t : TA} {pos : Pos} (h : PA X es t) : PE X (.List es pos) (tLstN t) := by
  constructor
  intro pins s σ H Q I want
  apply wpAny_List_spliced
  apply thn (h.run pos pins s σ H _ I want)
  rintro us s1 ⟨xs, H1, I1, vals, len, k⟩
  have free : H1 s1.heap.objs.size = none := I1.hok.fresh (Nat.le_refl _)
  refine ⟨vals.length ▸ len, .ref _, upd H1 _ (.lst xs), I1.laid (t' := s1.toks) (fun _ _ e => Heap.get?_push_of_some _ e) (Nat.le_refl _) ⟨len, us, 0, vals, Heap.get?_push_size _ rfl⟩, rfl, ?_⟩
  exact k _ free (Nat.ne_of_gt I1.big)
mutual
/-- data at a value: lists that are tracked (and are not what stands at p), tuples, the empty dict -/
inductive Dq (K : PySem.W.Frag) (p : Addr) (H : Hp) : V → PyData → Prop
  | non : Dq K p H .non .none
  | bl (b : Bool) : Dq K p H (.bl b) (.bool b)
  | int (i : Int) : Dq K p H (.int i) (.int i)
  | str (x : Str) : Dq K p H (.str x) (.str x)
  | lst {a : Addr} {xs : List V} {ds : List PyData} : a ≠ p → a ≠ sysModules → H a = some (.lst xs) → DqAll K p H xs ds → Dq K p H (.ref a) (.list ds)
  | tup {a : Addr} {xs : List V} {ds : List PyData} : SqT K H a xs → DqAll K p H xs ds → Dq K p H (.ref a) (.tuple ds)
  | emp {a : Addr} : H a = some (.dK []) → Dq K p H (.ref a) (.dict [])
inductive DqAll (K : PySem.W.Frag) (p : Addr) (H : Hp) : List V → List PyData → Prop
  | nil : DqAll K p H [] []
  | cons {v : V} {vs : List V} {d : PyData} {ds : List PyData} : Dq K p H v d → DqAll K p H vs ds → DqAll K p H (v :: vs) (d :: ds)
end
mutual
theorem Dq.ex {K : PySem.W.Frag} {p : Addr} {H H' : Hp} (e : Ex H H') : ∀ (d : PyData) (v : V), Dq K p H v d → Dq K p H' v d
  | _, _, .non => .non
  | _, _, .bl b => .bl b
  | _, _, .int i => .int i
  | _, _, .str x => .str x
  | _, _, .lst n m h hs => .lst n m (e _ _ h) (DqAll.ex e _ _ hs)
  | _, _, .tup h hs => .tup (ex_t e h) (DqAll.ex e _ _ hs)
  | _, _, .emp h => .emp (e _ _ h)
theorem DqAll.ex {K : PySem.W.Frag} {p : Addr} {H H' : Hp} (e : Ex H H') : ∀ (ds : List PyData) (vs : List V), DqAll K p H vs ds → DqAll K p H' vs ds
  | _, _, .nil => .nil
  | _, _, .cons h hs => .cons (Dq.ex e _ _ h) (DqAll.ex e _ _ hs)
end
section
variable {X : Cx} {pins : List (Addr × Obj)} {σ : L2.St} {H : Hp} {s : Shared}
mutual
theorem Dq.reads {p : Addr} (I : Inv X pins σ H s) : ∀ (d : PyData) (v : V) (u : Value), Dq X.K p H v d → RelV v u → ∃ as, Reads s.heap u d as ∧ sysModules ∉ as
  | _, _, u, .non, r => by
    cases (show u = Value.none from r)
    exact ⟨_, .none, by simp⟩
  | _, _, u, .bl b, r => by
    cases (show u = Value.bool b from r)
    exact ⟨_, .bool b, by simp⟩
  | _, _, u, .int i, r => by
    obtain ⟨t, q⟩ := (show ∃ t, u = Value.int i t from r)
    cases q
    exact ⟨_, .int i t, by simp⟩
  | _, _, u, .str x, r => by
    obtain ⟨t, q⟩ := (show ∃ t, u = Value.str x t from r)
    cases q
    exact ⟨_, .str x t, by simp⟩
  | _, _, u, .lst (a := a) _ m h hs, r => by
    cases (show u = Value.ref a from r)
    have hx : ObjOk X.prog X.w H s.heap a (.lst _) := I.hok a _ h
    obtain ⟨_, its, n, rv, e⟩ := hx
    obtain ⟨as, q, nm⟩ := DqAll.reads I _ _ _ hs rv
    exact ⟨_, .list e rfl rfl (by simpa using q), by
      simp only [List.mem_cons, not_or]
      exact ⟨m.symm, nm⟩⟩
  | _, _, u, .tup (a := a) h hs, r => by
    cases (show u = Value.ref a from r)
    obtain ⟨its, rv, ⟨o, e, c, n, dd⟩, _⟩ := I.tuple h
    obtain ⟨as, q, nm⟩ := DqAll.reads I _ _ _ hs rv
    exact ⟨_, .tuple e c dd (by simpa using q), nm⟩
  | _, _, u, .emp (a := a) h, r => by
    cases (show u = Value.ref a from r)
    obtain ⟨_, nsm, vs, kv, o, es, ep, e, x, dd, _, pr, _⟩ := dk_of I.hok h
    cases kv
    have e0 : es.toList = [] := by
      cases hh : es.toList with
      | nil => rfl
      | cons y ys =>
        rw [hh] at pr
        cases pr
    exact ⟨_, .dict (as := []) (bs := []) e x.1 dd (by rw [e0]; exact .nil) (by rw [e0]; exact .nil), by
      have := (beq_eq_false_iff_ne.mp nsm).symm
      simpa using this⟩
theorem DqAll.reads {p : Addr} (I : Inv X pins σ H s) : ∀ (ds : List PyData) (vs : List V) (us : List Value), DqAll X.K p H vs ds → Vals vs us → ∃ as, ReadsAll s.heap us ds as ∧ sysModules ∉ as
  | _, _, us, .nil, r => by
    cases r
    exact ⟨_, .nil, by simp⟩
  | _, _, us, .cons h hs, r => by
    cases r with
    | cons r1 r2 =>
      obtain ⟨as, q1, n1⟩ := Dq.reads I _ _ _ h r1
      obtain ⟨bs, q2, n2⟩ := DqAll.reads I _ _ _ hs r2
      exact ⟨_, .cons q1 q2, by
        simp only [List.mem_append, not_or]
        exact ⟨n1, n2⟩⟩
end
end
mutual
theorem Dp.nd {K : PySem.W.Frag} {H : Hp} : ∀ (d : PyData) (v : V), Dp K H v d → d.hasDict = false
  | _, _, .non => rfl
  | _, _, .bl _ => rfl
  | _, _, .int _ => rfl
  | _, _, .str _ => rfl
  | _, _, .lst _ hs => by simp only [PyData.hasDict]; exact DpAll.nd _ _ hs
  | _, _, .tup _ hs => by simp only [PyData.hasDict]; exact DpAll.nd _ _ hs
theorem DpAll.nd {K : PySem.W.Frag} {H : Hp} : ∀ (ds : List PyData) (vs : List V), DpAll K H vs ds → PyData.hasDictAll ds = false
  | _, _, .nil => rfl
  | _, _, .cons h hs => by simp only [PyData.hasDictAll, Dp.nd _ _ h, DpAll.nd _ _ hs, Bool.or_false]
end
def rRepr (K : PySem.W.Frag) : List V → Hp → VK → Prop := fun xs H Q => ∃ (x : V) (d : PyData) (p : Addr), xs = [x] ∧ (Dq K p H x d ∨ Dp K H x d) ∧ d.showable = true ∧ d.depth ≤ 60 ∧ d.shown.length ≤ sizeLine ∧ Q (.str d.shown) H
section
variable {X : Cx}
theorem call_repr (gd : X.A.guards = some []) (hu : X.A.units + 64 < cLine) : CallR X (.builtin "repr") (rRepr X.K) := by
  intro pins s σ H xs us Q I r h
  obtain ⟨x, d, p, rfl, hd, hs, hdep, hz, q⟩ := h
  cases r with
  | cons r1 r2 =>
    cases r2
    rename_i u
    obtain ⟨as, hr, nm⟩ : ∃ as, Reads s.heap u d as ∧ (d.hasDict = true → sysModules ∉ as) := by
      rcases hd with hd | hd
      · obtain ⟨as, hr, nm⟩ := Dq.reads I d x u hd r1
        exact ⟨as, hr, fun _ => nm⟩
      · obtain ⟨as, hr⟩ := Dp.reads I d x u hd r1
        exact ⟨as, hr, fun z => by rw [Dp.nd d x hd] at z; cases z⟩
    have fin : ∀ h' u' tk, (∀ b o, s.heap.get? b = some o → h'.get? b = some o) → EP X pins σ Q (.str d.shown u') { s with heap := h', toks := tk } := fun h' u' tk hk => ⟨.str d.shown, H, I.kept hk, ⟨_, rfl⟩, q⟩
    have f0 := fin s.heap s.toks (s.toks + 1) (fun _ _ z => z)
    cases hr with
    | none => exact PySem.P.repr_of_none (by simpa [PyData.shown] using f0)
    | bool b => exact PySem.P.repr_of_bool (by simpa [PyData.shown] using f0)
    | int i t => exact PySem.P.repr_of_int (by simpa [PyData.showable] using hs) (by simpa [PyData.shown] using f0)
    | str y t => exact PySem.P.repr_of_str (by simpa [PyData.shown] using f0) (by simpa [PyData.shown] using hz)
    | list h1 h2 h3 h4 => exact repr_of_reads' (.list h1 h2 h3 h4) hs nm gd (by omega) (fun _ _ z => z) (fun h' u' tk hk => fin h' u' tk hk) hz
    | tuple h1 h2 h3 h4 => exact repr_of_reads' (.tuple h1 h2 h3 h4) hs nm gd (by omega) (fun _ _ z => z) (fun h' u' tk hk => fin h' u' tk hk) hz
    | dict h1 h2 h3 h4 h5 => exact repr_of_reads' (.dict h1 h2 h3 h4 h5) hs nm gd (by omega) (fun _ _ z => z) (fun h' u' tk hk => fin h' u' tk hk) hz
end
end Jf
set_option Elab.async false
set_option linter.all false
set_option maxRecDepth 100000
set_option maxHeartbeats 4000000
namespace Jf
open PySem PySem.Spec PyProof.Rows L2 Evl
/-! ### how long shown data is -/
def lens : List Str → Nat
  | [] => 0
  | t :: ts => t.length + 2 + lens ts
theorem textFrom_le : ∀ (ts : List Str) (k : Nat) (acc : Str), (textFrom k acc ts).length ≤ acc.length + lens ts
  | [], _, acc => by simp [textFrom, lens]
  | t :: ts, k, acc => by
    have h := textFrom_le ts (k + 1) (acc ++ (if k > 0 then ", " else "" : String) ++ t)
    have e : ((if k > 0 then ", " else "" : String) : Str).length ≤ 2 := by
      by_cases z : k > 0
      · rw [if_pos z]; decide
      · rw [if_neg z]; decide
    simp only [textFrom, lens, Str.length_append] at h ⊢
    omega
theorem join_le : ∀ ts : List Str, (Str.join ", " ts).length ≤ lens ts
  | [] => by simp only [Str.join, lens]; decide
  | [x] => by simp only [Str.join, lens]; omega
  | x :: y :: r => by
    have h := join_le (y :: r)
    have e : ((", " : String) : Str).length = 2 := by decide
    simp only [Str.join, lens, Str.length_append] at h ⊢
    omega
mutual
def cost : PyData → Nat
  | .none => 4
  | .bool _ => 5
  | .int i => i.natAbs.log2 + 3
  | .str x => (reprText x).length
  | .list xs => costAll xs + 4
  | .tuple xs => costAll xs + 4
  | .dict [] => 2
  | .dict (_ :: _) => 100000000
def costAll : List PyData → Nat
  | [] => 0
  | x :: xs => cost x + 2 + costAll xs
end
mutual
theorem shown_le : ∀ d : PyData, cost d < 100000000 → d.shown.length ≤ cost d
  | .none, _ => by simp only [PyData.shown, cost]; decide
  | .bool b, _ => by cases b <;> (simp only [PyData.shown, cost]; decide)
  | .int i, _ => by
    simp only [PyData.shown, cost]
    have h := int_text_length_le (a := i) (k := i.natAbs.log2 + 1) (by omega) (by omega)
    show (Str.ofString (toString i)).length ≤ _
    rw [PySem.ofString_length]
    omega
  | .str x, _ => by simp only [PyData.shown, cost]; omega
  | .list xs, h => by
    simp only [cost] at h
    have := shownAll_le xs (by omega)
    have z := textFrom_le (PyData.shownAll xs) 0 (Str.ofString "[")
    have e : (Str.ofString "[").length = 1 := by decide
    have e2 : (Str.ofString "]").length = 1 := by decide
    simp only [PyData.shown, cost, listText, Str.length_append] at z ⊢
    omega
  | .tuple xs, h => by
    simp only [cost] at h
    have := shownAll_le xs (by omega)
    have z := join_le (PyData.shownAll xs)
    have e : (Str.ofString "(").length = 1 := by decide
    have e2 : ((if (PyData.shownAll xs).length == 1 then ",)" else ")" : String) : Str).length ≤ 2 := by
      by_cases q : ((PyData.shownAll xs).length == 1) = true
      · rw [if_pos q]; decide
      · rw [if_neg q]; decide
    simp only [PyData.shown, cost, tupleText, Str.length_append] at z ⊢
    omega
  | .dict [], _ => by simp only [PyData.shown, PyData.shownKv, cost]; decide
  | .dict (_ :: _), h => by simp only [cost] at h; omega
theorem shownAll_le : ∀ ds : List PyData, costAll ds < 100000000 → lens (PyData.shownAll ds) ≤ costAll ds
  | [], _ => by simp [PyData.shownAll, lens, costAll]
  | d :: ds, h => by
    simp only [costAll] at h
    have h1 := shown_le d (by omega)
    have h2 := shownAll_le ds (by omega)
    simp only [PyData.shownAll, lens, costAll]
    omega
end
/-- data that is shown without harm: its text, its depth -/
structure Nc (c e : Nat) (d : PyData) : Prop where
  sh : d.showable = true
  dp : d.depth ≤ e
  co : cost d ≤ c
theorem Nc.mono {c c' e e' : Nat} {d : PyData} (h : Nc c e d) (h1 : c ≤ c') (h2 : e ≤ e') : Nc c' e' d := ⟨h.sh, Nat.le_trans h.dp h2, Nat.le_trans h.co h1⟩
theorem Nc.len {c e : Nat} {d : PyData} (h : Nc c e d) (hc : c ≤ 1000000) : d.shown.length ≤ c := Nat.le_trans (shown_le d (by have := h.co; omega)) h.co
theorem nc_none : Nc 4 0 .none := ⟨rfl, Nat.le_refl _, Nat.le_refl _⟩
theorem nc_bool (b : Bool) : Nc 5 0 (.bool b) := ⟨rfl, Nat.le_refl _, Nat.le_refl _⟩
theorem nc_int {n : Int} {b : Nat} (h : n.natAbs < 2 ^ b) (h0 : 0 < b) (h1 : b ≤ 1900) : Nc (b + 2) 0 (.int n) := by
  have := PySem.Flt.log2_lt_of h0 h
  refine ⟨?_, Nat.le_refl _, ?_⟩
  · simp only [PyData.showable, decide_eq_true_eq]; omega
  · simp only [cost]; omega
theorem nc_str {x : Str} {c : Nat} (h : (reprText x).length ≤ c) : Nc c 0 (.str x) := ⟨rfl, Nat.le_refl _, h⟩
/-- several -/
structure NcA (c e : Nat) (ds : List PyData) : Prop where
  sh : PyData.showableAll ds = true
  dp : PyData.depthAll ds ≤ e
  co : costAll ds ≤ c
theorem nca_nil {e : Nat} : NcA 0 e [] := ⟨rfl, Nat.zero_le _, Nat.le_refl _⟩
theorem nca_cons {c c' e : Nat} {d : PyData} {ds : List PyData} (h : Nc c e d) (hs : NcA c' e ds) : NcA (c + 2 + c') e (d :: ds) := by
  refine ⟨?_, ?_, ?_⟩
  · simp only [PyData.showableAll, h.sh, hs.sh, Bool.and_self]
  · simp only [PyData.depthAll]; exact Nat.max_le.mpr ⟨h.dp, hs.dp⟩
  · simp only [costAll]; have := h.co; have := hs.co; omega
theorem nc_tup {c e : Nat} {ds : List PyData} (h : NcA c e ds) : Nc (c + 4) (e + 1) (.tuple ds) := by
  refine ⟨?_, ?_, ?_⟩
  · simp only [PyData.showable, h.sh]
  · simp only [PyData.depth]; have := h.dp; omega
  · simp only [cost]; have := h.co; omega
theorem nc_lst {c e : Nat} {ds : List PyData} (h : NcA c e ds) : Nc (c + 4) (e + 1) (.list ds) := by
  refine ⟨?_, ?_, ?_⟩
  · simp only [PyData.showable, h.sh]
  · simp only [PyData.depth]; have := h.dp; omega
  · simp only [cost]; have := h.co; omega
theorem nc_emp : Nc 2 1 (.dict []) := ⟨rfl, Nat.le_refl _, Nat.le_refl _⟩
theorem nc_pair {n m : Int} {b : Nat} (hn : n.natAbs < 2 ^ b) (hm : m.natAbs < 2 ^ b) (h0 : 0 < b) (h1 : b ≤ 1900) : Nc (2 * b + 12) 1 (.tuple [.int n, .int m]) :=
  (nc_tup (nca_cons (nc_int hn h0 h1) (nca_cons (nc_int hm h0 h1) nca_nil))).mono (by omega) (by omega)
/-! ### which data is what -/
def tyName : PyData → String
  | .none => "NoneType"
  | .bool _ => "bool"
  | .int _ => "int"
  | .str _ => "str"
  | .list _ => "list"
  | .tuple _ => "tuple"
  | .dict _ => "dict"
def isTup : PyData → Bool
  | .tuple _ => true
  | _ => false
def isInt : PyData → Bool
  | .int _ => true
  | .bool _ => true
  | _ => false
def isBo : PyData → Bool
  | .bool _ => true
  | _ => false
def isWh : PyData → Bool
  | .int _ => true
  | _ => false
theorem wh_eq (d : PyData) : (isInt d && !isBo d) = isWh d := by cases d <;> rfl
theorem kit_tup (d : PyData) : kitB (tyName d) "tuple" = some (isTup d) := by cases d <;> (simp only [tyName, isTup]; decide +kernel)
theorem kit_int (d : PyData) : kitB (tyName d) "int" = some (isInt d) := by cases d <;> (simp only [tyName, isInt]; decide +kernel)
theorem kit_bool (d : PyData) : kitB (tyName d) "bool" = some (isBo d) := by cases d <;> (simp only [tyName, isBo]; decide +kernel)
section
variable {K : PySem.W.Frag} {p : Addr} {H H' : Hp} {v : V} {d : PyData}
theorem Dq.ty (h : Dq K p H v d) : TyX K H v (.type (tyName d)) := by
  cases h with
  | non => exact .base .non
  | bl b => exact .base (.bl b)
  | int i => exact .base (.int i)
  | str x => exact .base (.str x)
  | lst _ _ h _ => exact .base (.lst h)
  | tup h _ =>
    rcases h with (h | ⟨o, h⟩) | ⟨o, _, _, h, c, _⟩
    · exact .base (.tup h)
    · exact .fTuple h
    · exact .kTuple h c
  | emp h => exact .base (.dK h)
theorem DqAll.len : ∀ {vs : List V} {ds : List PyData}, DqAll K p H vs ds → vs.length = ds.length
  | _, _, .nil => rfl
  | _, _, .cons _ h => by rw [List.length_cons, List.length_cons, h.len]
theorem DqAll.mem : ∀ {vs : List V} {ds : List PyData}, DqAll K p H vs ds → ∀ x ∈ vs, ∃ d ∈ ds, Dq K p H x d
  | _, _, .nil, x, hx => nomatch hx
  | _, _, .cons (d := d) h hs, x, hx => by
    rcases List.mem_cons.mp hx with rfl | hx
    · exact ⟨d, List.mem_cons_self, h⟩
    · obtain ⟨e, he, q⟩ := hs.mem x hx
      exact ⟨e, List.mem_cons_of_mem _ he, q⟩
theorem DqAll.append : ∀ {vs ws : List V} {ds es : List PyData}, DqAll K p H vs ds → DqAll K p H ws es → DqAll K p H (vs ++ ws) (ds ++ es)
  | _, _, _, _, .nil, h => h
  | _, _, _, _, .cons a b, h => .cons a (b.append h)
/-- a fraction's data -/
def frd (q : Rat) : PyData := .tuple [.int q.num, .int (q.den : Int)]
theorem Fr.dq {b : Nat} {q : Rat} (h : Fr K b q v H) : Dq K p H v (frd q) := by
  obtain ⟨a, rfl, h, _⟩ := h
  exact .tup h (.cons (.int _) (.cons (.int _) .nil))
theorem Fr.nc {b : Nat} {q : Rat} (h : Fr K b q v H) (h0 : 0 < b) (h1 : b ≤ 1900) : Nc (2 * b + 12) 1 (frd q) := nc_pair h.bd.1 (bd_den h.bd) h0 h1
/-- whether it is a fraction's -/
def frB : PyData → Bool
  | .tuple [.int n, .int m] => decide (0 < m) && decide (Nat.gcd n.natAbs m.natAbs = 1)
  | _ => false
def frQ : PyData → Rat
  | .tuple [.int n, .int m] => Rat.divInt n m
  | _ => 0
theorem divInt_low {n m : Int} (hm : 0 < m) (hg : Nat.gcd n.natAbs m.natAbs = 1) : (Rat.divInt n m).num = n ∧ ((Rat.divInt n m).den : Int) = m := by
  obtain ⟨h1, h2⟩ := low_eq n m (by omega) 1 (by rw [if_neg (by omega)])
  rw [hg] at h1 h2
  constructor
  · rw [← h1]; simp
  · rw [← h2]; simp
theorem frB_frd (q : Rat) : frB (frd q) = true := by
  have := den_pos q
  have h := red q
  simp only [frd, frB, h, decide_true, Bool.and_true, decide_eq_true_eq]
  exact this
theorem frQ_frd (q : Rat) : frQ (frd q) = q := by
  simp only [frd, frQ]
  exact Rat.num_divInt_den q
theorem frB_iff (h : frB d = true) : d = frd (frQ d) := by
  unfold frB at h
  split at h
  · rename_i n m
    rw [Bool.and_eq_true] at h
    obtain ⟨h1, h2⟩ := divInt_low (of_decide_eq_true h.1) (of_decide_eq_true h.2)
    simp only [frd, frQ, h1, h2]
  · cases h
theorem Dq.fr {b : Nat} (h : Dq K p H v d) (hb : frB d = true) (bd : Bd b (frQ d)) : Fr K b (frQ d) v H := by
  have e := frB_iff hb
  generalize frQ d = q at e bd
  subst e
  cases h with
  | tup h hs =>
    cases hs with
    | cons h1 h2 =>
      cases h2 with
      | cons h3 h4 =>
        cases h4
        cases h1
        cases h3
        exact ⟨_, rfl, h, bd⟩
end
end Jf
set_option Elab.async false
set_option linter.all false
set_option maxRecDepth 100000
set_option maxHeartbeats 4000000
namespace Jf
open PySem PySem.Spec PyProof.Rows L2 Evl
/-! ### the end of a law whose def shows data -/
/-- the script, known to its object; else nothing -/
def track (a : Addr) (vs : List Value) (ns : List Int) : Hp := fun b => if b = a then some (.frz { cls := .type "list", data := .seq vs.toArray } (.lst (ns.map V.int))) else none
theorem track_at {a : Addr} {vs : List Value} {ns : List Int} : track a vs ns a = some (.frz { cls := .type "list", data := .seq vs.toArray } (.lst (ns.map V.int))) := if_pos rfl
theorem track_ne {a b : Addr} {vs : List Value} {ns : List Int} (h : b ≠ a) : track a vs ns b = none := if_neg h
/-- what the law's promise is asked at -/
structure Asked (K : PySem.W.Frag) (h : Heap) (a : Addr) (vs : List Value) (ns : List Int) (H : Hp) : Prop where
  known : SqL K H a (ns.map V.int)
  only : ∀ b u, H b = some u → b = a ∧ ∃ o xs, u = .frz o (.lst xs)
  free : ∀ b o, K.lookup b = some o → H b = none
theorem seq_not_dict {h : Heap} {a : Addr} {vs : Array Value} {m : Str → Option Value} (ha : h.get? a = some { cls := .type "list", data := .seq vs }) : ¬ h.Ns a m := by
  rintro ⟨o, es, ep, e, d, _⟩
  rw [ha] at e
  cases e
  cases d
section
variable {P : Program} {w : World} {K : PySem.W.Frag} {mg mb : Str → Option Value} {k : Nat} {fa a : Addr} {fd : FuncData} {x : Str} {sp : Sp} {s₁ : Shared} {vs : List Value} {ns : List Int}
theorem go_law {H : Hp} (S : Asked K s₁.heap a vs ns H) (hok : HOk P w H s₁.heap) (KX : K.In s₁.heap) (hns : s₁.heap.Ns mainGlobals mg) (hb : s₁.heap.Ns builtinsNs mb) (hbb : ∀ x : Str, x ≠ "__name__" → mb x = bootBuiltins x) (hlim : s₁.heap.NoLimit) (hg : s₁.gens = #[])
    (ha : s₁.heap.get? a = some { cls := .type "list", data := .seq vs.toArray }) (hr : Room k callerA)
    (F : ∀ base : Heap, K.In base → base.Ns mainGlobals mg → FnG P w K mg base k fa fd [x] sp) (hbind : ∀ (s : Shared) (u : Value), BindsTo s fd ⟨[u], []⟩ [(x, u)])
    (hsp : sp [.ref a] H (fun v _ => v = .bl true) E0) :
    codeAny (model P w) callerA (.call (.ref fa) ⟨[.ref a], []⟩) (fun r s' => r = .ok (.ret (.bool true)) ∧ PySem.OldK s₁.heap s'.heap ∧ s'.os = s₁.os ∧ AllBare s'.gens) s₁ := by
  have ns_of : ∀ {b : Addr} {m : Str → Option Value}, s₁.heap.Ns b m → (hidT s₁.heap H).Ns b m := by
    intro b m hn
    have hn' := hn
    obtain ⟨o, es, ep, e, r⟩ := hn
    refine ⟨o, es, ep, hidT_get e ?_, r⟩
    cases q : H b with
    | none => rfl
    | some u =>
      obtain ⟨rfl, _⟩ := S.only b u q
      exact absurd hn' (seq_not_dict ha)
  have hKb : K.In (hidT s₁.heap H) := fun b o e => hidT_get (KX b o e) (S.free b o e)
  obtain ⟨mc, l1, l2⟩ := hlim
  have e0 : Env0 P w K mg (hidT s₁.heap H) callerA [] s₁ H := by
    constructor
    · rfl
    · exact ⟨hKb, ns_of hns, ⟨mb, ns_of hb, hbb⟩, ⟨mc, ns_of l1, l2⟩⟩
    · exact fun b o e => of_hidT e
    · exact Nat.le_of_eq (hidT_size _ _)
    · trivial
    · intro b hb
      exact absurd (show b ∈ ([] : List Addr) from hb) (by simp)
    · exact hok
    · exact .of_eq hg
  apply codeAny_mono ((F _ hKb (ns_of hns)).go callerA [] s₁ H ⟨[.ref a], []⟩ [.ref a] [.ref a] _ rfl hr e0 (hbind s₁ (.ref a)) (.cons rfl .nil) hsp)
  intro r s' h
  match r, h with
  | .error _, h => exact False.elim h
  | .ok (.ret u), ⟨v, H', os, bare, un, hok', r', q⟩ =>
    subst q
    obtain rfl : u = Value.bool true := r'
    refine ⟨rfl, PySem.OldK.of_keep ?_, os, bare⟩
    intro b o e
    cases q : H b with
    | none => exact un.keep b o e q (by intro z; exact absurd (show b ∈ ([] : List Addr) from z) (by simp)) (by simp)
    | some u =>
      obtain ⟨rfl, ob, xs, rfl⟩ := S.only b u q
      have q2 := un.frzs b ob _ q
      have e1 := (hok b _ q).1
      have e2 := (hok' b _ q2).1
      rw [e] at e1
      cases e1
      exact e2
theorem law_callG (KX : K.In s₁.heap) (hns : s₁.heap.Ns mainGlobals mg) (hb : s₁.heap.Ns builtinsNs mb) (hbb : ∀ x : Str, x ≠ "__name__" → mb x = bootBuiltins x) (hlim : s₁.heap.NoLimit) (hg : s₁.gens = #[])
    (ha : s₁.heap.get? a = some { cls := .type "list", data := .seq vs.toArray }) (hi : IntsAre vs ns) (hl : ns.length ≤ sizeLine) (hr : Room k callerA)
    (F : ∀ base : Heap, K.In base → base.Ns mainGlobals mg → FnG P w K mg base k fa fd [x] sp) (hbind : ∀ (s : Shared) (u : Value), BindsTo s fd ⟨[u], []⟩ [(x, u)])
    (hsp : ∀ H : Hp, SqL K H a (ns.map V.int) → sp [.ref a] H (fun v _ => v = .bl true) E0) :
    codeAny (model P w) callerA (.call (.ref fa) ⟨[.ref a], []⟩) (fun r s' => r = .ok (.ret (.bool true)) ∧ PySem.OldK s₁.heap s'.heap ∧ s'.os = s₁.os ∧ AllBare s'.gens) s₁ := by
  have rv := vals_ints hi
  cases hk : K.lookup a with
  | some o =>
    have e := KX a o hk
    rw [ha] at e
    cases e
    have known : SqL K (fun _ => none) a (ns.map V.int) := .inr ⟨_, vs.toArray, _, hk, rfl, rfl, rfl, by rw [List.size_toArray, hi.length]; exact hl, by simpa using rv⟩
    exact go_law (H := fun _ => none) ⟨known, (fun _ _ z => nomatch z), (fun _ _ _ => rfl)⟩ (fun _ _ z => nomatch z) KX hns hb hbb hlim hg ha hr F hbind (hsp _ known)
  | none =>
    have known : SqL K (track a vs ns) a (ns.map V.int) := .inl (.inr ⟨_, track_at⟩)
    refine go_law (H := track a vs ns) ⟨known, fun b u z => ?_, fun b o z => track_ne ?_⟩ (fun b u z => ?_) KX hns hb hbb hlim hg ha hr F hbind (hsp _ known)
    · by_cases h : b = a
      · subst h
        rw [track_at] at z
        cases z
        exact ⟨rfl, _, _, rfl⟩
      · rw [track_ne h] at z
        cases z
    · rintro rfl
      rw [hk] at z
      cases z
    · by_cases h : b = a
      · subst h
        rw [track_at] at z
        cases z
        exact ⟨ha, by rw [List.length_map]; exact hl, vs, _, rv, ha⟩
      · rw [track_ne h] at z
        cases z
end
theorem walk_ofG {l : PySem.W.OpenLaw} {n k : Nat} {q : Program} {loose : List Str} {XP : (Str → Option Value) → Heap → Prop} {YP : World → Heap → Prop} {d : DefRec} {K : Params → PySem.W.Frag} {sp : World → Sp} {x : Str}
    (hn : l.most = some n) (hn2 : n ≤ sizeLine) (hdf : d.params.defaults = []) (hr : Room k callerA) (hY : ∀ (w : World) (h : Heap), YP w h → (K w.params).In h)
    (F : ∀ (w : World) (mg : Str → Option Value) (fa : Addr) (h : Heap), (K w.params).In h → h.Ns mainGlobals mg → mg d.name = some (.ref fa) →
      ∃ fd : FuncData, (∀ (s : Shared) (u : Value), BindsTo s fd ⟨[u], []⟩ [(x, u)]) ∧ ∀ base : Heap, (K w.params).In base → base.Ns mainGlobals mg → FnG l.prog w (K w.params) mg base k fa fd [x] (sp w))
    (hsp : ∀ (w : World) (H : Hp) (a : Addr) (ns : List Int), ns.length ≤ n → SqL (K w.params) H a (ns.map V.int) → sp w [.ref a] H (fun v _ => v = .bl true) E0) :
    PySem.W.WalkO q loose XP YP l.row.toRowW d [] (fun f vs => PySem.call f vs) := by
  apply Att.attach_call hn hdf
  intro w s₀ s₁ mg mb fa o pm cd doc a vs ns G Y _ _ _ hmg hobj hints hlen hg
  obtain ⟨fd, hb, hF⟩ := F w mg fa _ (hY w _ Y) G.T.g hmg
  exact law_callG (hY w _ Y) G.T.g G.T.b G.T.builtins G.T.nolimit hg hobj hints (Nat.le_trans hlen hn2) hr hF hb fun H hS => hsp w H a ns hlen hS
end Jf
set_option Elab.async false
set_option linter.all false
set_option maxRecDepth 100000
set_option maxHeartbeats 4000000
namespace Jf
open PySem PySem.Spec PyProof.Rows L2 Evl
/-! ### the end of a law whose def shows data, some defs of which hold generators (cs: their code objects, with the tables) -/
def trackT (cs : List (Addr × Addr)) (H : Hp) : Hp := fun b => if b ∈ cs.map (fun p => p.2) then some (.tbl #[]) else H b
theorem trackT_in {cs : List (Addr × Addr)} {H : Hp} {b : Addr} (h : b ∈ cs.map (fun p => p.2)) : trackT cs H b = some (.tbl #[]) := if_pos h
theorem trackT_out {cs : List (Addr × Addr)} {H : Hp} {b : Addr} (h : b ∉ cs.map (fun p => p.2)) : trackT cs H b = H b := if_neg h
structure AskedT (K : PySem.W.Frag) (cs : List (Addr × Addr)) (a : Addr) (ns : List Int) (H : Hp) : Prop where
  known : SqL K H a (ns.map V.int)
  tbl : ∀ b ∈ cs.map (fun p => p.2), H b = some (.tbl #[])
  only : ∀ b u, H b = some u → b ∈ cs.map (fun p => p.2) ∨ (b = a ∧ ∃ o xs, u = .frz o (.lst xs))
  free : ∀ b o, K.lookup b = some o → H b = none
section
variable {P : Program} {w : World} {K : PySem.W.Frag} {mg mb : Str → Option Value} {k : Nat} {fa a : Addr} {fd : FuncData} {x : Str} {sp : Sp} {s₁ : Shared} {vs : List Value} {ns : List Int} {cs : List (Addr × Addr)}
theorem go_lawT {H : Hp} (S : AskedT K cs a ns H) (hok : HOk P w H s₁.heap) (KX : K.In s₁.heap) (hns : s₁.heap.Ns mainGlobals mg) (hb : s₁.heap.Ns builtinsNs mb) (hbb : ∀ x : Str, x ≠ "__name__" → mb x = bootBuiltins x) (hlim : s₁.heap.NoLimit) (hg : s₁.gens = #[])
    (hT : ∀ p ∈ cs, s₁.heap.get? p.2 = some { cls := .none, data := .fields #[] }) (hC : ∀ p ∈ cs, PySem.W.CodeHd s₁.heap p.1 p.2)
    (hbm : ∃ (bm : Addr) (ob : Obj), mg "__builtins__" = some (.ref bm) ∧ bm ≠ builtinsNs ∧ s₁.heap.get? bm = some ob ∧ ob.cls = .type "module" ∧ ob.dict = some builtinsNs ∧ ob.data = .plain)
    (ha : s₁.heap.get? a = some { cls := .type "list", data := .seq vs.toArray }) (hr : Room k callerA)
    (F : ∀ base : Heap, K.In base → base.Ns mainGlobals mg → (∀ p ∈ cs, GxR.TabB base mg p.1 p.2) → FnG P w K mg base k fa fd [x] sp) (hbind : ∀ (s : Shared) (u : Value), BindsTo s fd ⟨[u], []⟩ [(x, u)])
    (hsp : sp [.ref a] H (fun v _ => v = .bl true) E0) :
    codeAny (model P w) callerA (.call (.ref fa) ⟨[.ref a], []⟩) (fun r s' => r = .ok (.ret (.bool true)) ∧ PySem.OldK s₁.heap s'.heap ∧ s'.os = s₁.os ∧ AllBare s'.gens) s₁ := by
  have atT : ∀ b ∈ cs.map (fun p => p.2), s₁.heap.get? b = some { cls := .none, data := .fields #[] } := by
    intro b h
    obtain ⟨p, hp, rfl⟩ := List.mem_map.mp h
    exact hT p hp
  -- what has other data isn't tracked
  have other : ∀ {b : Addr} {o : Obj}, s₁.heap.get? b = some o → o.data ≠ .fields #[] → (∀ us n, o.data ≠ .seq us n) → H b = none := by
    intro b o e n1 n2
    cases q : H b with
    | none => rfl
    | some u =>
      rcases S.only b u q with z | ⟨rfl, _⟩
      · rw [atT b z] at e
        cases e
        exact absurd rfl n1
      · rw [ha] at e
        cases e
        exact absurd rfl (n2 _ _)
  have base_ns : ∀ {b : Addr} {m : Str → Option Value}, s₁.heap.Ns b m → (hidT s₁.heap H).Ns b m := by
    rintro b m ⟨o, es, ep, e, d, r⟩
    exact ⟨o, es, ep, hidT_get e (other e (by rw [d]; exact fun z => nomatch z) fun us n z => by rw [d] at z; cases z), d, r⟩
  have hKb : K.In (hidT s₁.heap H) := fun b o e => hidT_get (KX b o e) (S.free b o e)
  have TB : ∀ p ∈ cs, GxR.TabB (hidT s₁.heap H) mg p.1 p.2 := by
    intro p hp
    have tp := hT p hp
    obtain ⟨o, us, file, tf, flags, tg, inF, text, tt, c1, c2, c3, c4, c5⟩ := hC p hp
    obtain ⟨bm, ob, b1, b2, b3, b4, b5, b6⟩ := hbm
    constructor
    · refine ⟨o, us, file, tf, flags, tg, inF, text, tt, hidT_get c1 (other c1 (fun z => ?_) fun us n z => ?_), c2, c3, c4, c5⟩
      · rw [c3] at z
        cases z
        simp at c4
      · rw [c3] at z
        cases z
    · refine ⟨bm, ob, b1, b2, fun z => ?_, fun z => ?_, hidT_get b3 (other b3 (by rw [b6]; exact fun z => nomatch z) fun us n z => by rw [b6] at z; cases z), b4, b5, b6⟩
      · obtain ⟨o2, es, ep, e, d, _⟩ := hns
        rw [z, e] at b3
        cases b3
        rw [d] at b6
        cases b6
      · rw [z, tp] at b3
        cases b3
        cases b6
    · intro z
      obtain ⟨o2, es, ep, e, d, _⟩ := hns
      rw [z, tp] at e
      cases e
      cases d
  obtain ⟨mc, l1, l2⟩ := hlim
  have e0 : Env0 P w K mg (hidT s₁.heap H) callerA [] s₁ H := by
    constructor
    · rfl
    · exact ⟨hKb, base_ns hns, ⟨mb, base_ns hb, hbb⟩, ⟨mc, base_ns l1, l2⟩⟩
    · exact fun b o e => of_hidT e
    · exact Nat.le_of_eq (hidT_size _ _)
    · trivial
    · intro b hb
      exact absurd (show b ∈ ([] : List Addr) from hb) (by simp)
    · exact hok
    · exact .of_eq hg
  apply codeAny_mono ((F _ hKb (base_ns hns) TB).go callerA [] s₁ H ⟨[.ref a], []⟩ [.ref a] [.ref a] _ rfl hr e0 (hbind s₁ (.ref a)) (.cons rfl .nil) hsp)
  intro r s' h
  match r, h with
  | .error _, h => exact False.elim h
  | .ok (.ret u), ⟨v, H', os, bare, un, hok', r', q⟩ =>
    subst q
    obtain rfl : u = Value.bool true := r'
    have same : ∀ b o, b ∉ cs.map (fun p => p.2) → s₁.heap.get? b = some o → s'.heap.get? b = some o := by
      intro b o nb e
      cases q : H b with
      | none => exact un.keep b o e q (by intro z; exact absurd (show b ∈ ([] : List Addr) from z) (by simp)) (by simp)
      | some u =>
        rcases S.only b u q with z | ⟨rfl, ob, xs, rfl⟩
        · exact absurd z nb
        · have q2 := un.frzs b ob _ q
          have e1 := (hok b _ q).1
          have e2 := (hok' b _ q2).1
          rw [e] at e1
          cases e1
          exact e2
    have more : ∀ b ∈ cs.map (fun p => p.2), ∃ m : Array Value, s'.heap.get? b = some { cls := .none, data := .fields m } := by
      intro b h
      obtain ⟨m, z⟩ := un.tbls b #[] (S.tbl b h)
      exact ⟨_, hok' b _ z⟩
    refine ⟨rfl, ⟨fun b o e => ?_, fun b o e => ?_⟩, os, bare⟩
    · by_cases h : b ∈ cs.map (fun p => p.2)
      · obtain ⟨m, z⟩ := more b h
        obtain ⟨p, hp, rfl⟩ := List.mem_map.mp h
        rw [hT p hp] at e
        cases e
        exact .inr (.inl ⟨((hC p hp).tab (hT p hp)).isCodeTable, rfl, #[], m, rfl, by rw [Array.empty_append]; exact z⟩)
      · exact .inl (same b o h e)
    · by_cases h : b ∈ cs.map (fun p => p.2)
      · obtain ⟨m, z⟩ := more b h
        exact ⟨_, z⟩
      · exact ⟨o, same b o h e⟩
theorem law_callGT (KX : K.In s₁.heap) (hns : s₁.heap.Ns mainGlobals mg) (hb : s₁.heap.Ns builtinsNs mb) (hbb : ∀ x : Str, x ≠ "__name__" → mb x = bootBuiltins x) (hlim : s₁.heap.NoLimit) (hg : s₁.gens = #[])
    (hT : ∀ p ∈ cs, s₁.heap.get? p.2 = some { cls := .none, data := .fields #[] }) (nT : ∀ p ∈ cs, K.lookup p.2 = none) (hC : ∀ p ∈ cs, PySem.W.CodeHd s₁.heap p.1 p.2)
    (hbm : ∃ (bm : Addr) (ob : Obj), mg "__builtins__" = some (.ref bm) ∧ bm ≠ builtinsNs ∧ s₁.heap.get? bm = some ob ∧ ob.cls = .type "module" ∧ ob.dict = some builtinsNs ∧ ob.data = .plain)
    (ha : s₁.heap.get? a = some { cls := .type "list", data := .seq vs.toArray }) (hi : IntsAre vs ns) (hl : ns.length ≤ sizeLine) (hr : Room k callerA)
    (F : ∀ base : Heap, K.In base → base.Ns mainGlobals mg → (∀ p ∈ cs, GxR.TabB base mg p.1 p.2) → FnG P w K mg base k fa fd [x] sp) (hbind : ∀ (s : Shared) (u : Value), BindsTo s fd ⟨[u], []⟩ [(x, u)])
    (hsp : ∀ H : Hp, (∀ p ∈ cs, H p.2 = some (.tbl #[])) → SqL K H a (ns.map V.int) → sp [.ref a] H (fun v _ => v = .bl true) E0) :
    codeAny (model P w) callerA (.call (.ref fa) ⟨[.ref a], []⟩) (fun r s' => r = .ok (.ret (.bool true)) ∧ PySem.OldK s₁.heap s'.heap ∧ s'.os = s₁.os ∧ AllBare s'.gens) s₁ := by
  have rv := vals_ints hi
  have atT : ∀ b ∈ cs.map (fun p => p.2), s₁.heap.get? b = some { cls := .none, data := .fields #[] } := by
    intro b h
    obtain ⟨p, hp, rfl⟩ := List.mem_map.mp h
    exact hT p hp
  have nK : ∀ b ∈ cs.map (fun p => p.2), K.lookup b = none := by
    intro b h
    obtain ⟨p, hp, rfl⟩ := List.mem_map.mp h
    exact nT p hp
  have na : a ∉ cs.map (fun p => p.2) := fun z => by
    have q := atT a z
    rw [ha] at q
    cases q
  have inT : ∀ p ∈ cs, p.2 ∈ cs.map (fun p => p.2) := fun p hp => List.mem_map.mpr ⟨p, hp, rfl⟩
  cases hk : K.lookup a with
  | some o =>
    have e := KX a o hk
    rw [ha] at e
    cases e
    have known : SqL K (trackT cs fun _ => none) a (ns.map V.int) := .inr ⟨_, vs.toArray, _, hk, rfl, rfl, rfl, by rw [List.size_toArray, hi.length]; exact hl, by simpa using rv⟩
    refine go_lawT (H := trackT cs fun _ => none) ⟨known, fun b h => trackT_in h, fun b u z => ?_, fun b o z => ?_⟩ (fun b u z => ?_) KX hns hb hbb hlim hg hT hC hbm ha hr F hbind (hsp _ (fun p hp => trackT_in (inT p hp)) known)
    · by_cases h : b ∈ cs.map (fun p => p.2)
      · exact .inl h
      · rw [trackT_out h] at z
        cases z
    · exact trackT_out fun h => by rw [nK b h] at z; cases z
    · by_cases h : b ∈ cs.map (fun p => p.2)
      · rw [trackT_in h] at z
        cases z
        exact atT b h
      · rw [trackT_out h] at z
        cases z
  | none =>
    have at_a : trackT cs (track a vs ns) a = some (.frz { cls := .type "list", data := .seq vs.toArray } (.lst (ns.map V.int))) := (trackT_out na).trans track_at
    have known : SqL K (trackT cs (track a vs ns)) a (ns.map V.int) := .inl (.inr ⟨_, at_a⟩)
    refine go_lawT (H := trackT cs (track a vs ns)) ⟨known, fun b h => trackT_in h, fun b u z => ?_, fun b o z => ?_⟩ (fun b u z => ?_) KX hns hb hbb hlim hg hT hC hbm ha hr F hbind (hsp _ (fun p hp => trackT_in (inT p hp)) known)
    · by_cases h : b ∈ cs.map (fun p => p.2)
      · exact .inl h
      · rw [trackT_out h] at z
        by_cases h2 : b = a
        · subst h2
          rw [track_at] at z
          cases z
          exact .inr ⟨rfl, _, _, rfl⟩
        · rw [track_ne h2] at z
          cases z
    · refine (trackT_out fun h => ?_).trans (track_ne ?_)
      · rw [nK b h] at z
        cases z
      · rintro rfl
        rw [hk] at z
        cases z
    · by_cases h : b ∈ cs.map (fun p => p.2)
      · rw [trackT_in h] at z
        cases z
        exact atT b h
      · rw [trackT_out h] at z
        by_cases h2 : b = a
        · subst h2
          rw [track_at] at z
          cases z
          exact ⟨ha, by rw [List.length_map]; exact hl, vs, _, rv, ha⟩
        · rw [track_ne h2] at z
          cases z
end
/-- the table of code objects of the def y, as the top leaves it: empty -/
def TabE (K : PySem.W.Frag) (y : Str) (mg : Str → Option Value) (h : Heap) : Prop := ∀ (f c T : Addr) (o : Obj) (fd : FuncData) (e : Value) (dd : Option Addr) (us : Array Value) (sl : Array (Option Value)),
  mg y = some (.ref f) → K.lookup f = some o → o.data = .func fd → fd.code = .ref c → K.lookup c = some ⟨e, dd, .fields us, sl⟩ → us[11]? = some (.ref T) → h.get? T = some { cls := .none, data := .fields #[] }
theorem walk_ofGT {l : PySem.W.OpenLaw} {n k : Nat} {q : Program} {loose : List Str} {XP : (Str → Option Value) → Heap → Prop} {YP : World → Heap → Prop} {d : DefRec} {K : Params → PySem.W.Frag} {sp : World → Sp} {x y : Str}
    (hn : l.most = some n) (hn2 : n ≤ sizeLine) (hdf : d.params.defaults = []) (hr : Room k callerA) (hrec : ((recsOf q).any fun e => e.name == y) = true) (hY : ∀ (w : World) (h : Heap), YP w h → (K w.params).In h)
    (F : ∀ (w : World) (mg : Str → Option Value) (fa : Addr) (h : Heap), (K w.params).In h → h.Ns mainGlobals mg → mg d.name = some (.ref fa) → TabE (K w.params) y mg h →
      ∃ (fd : FuncData) (cs : List (Addr × Addr)), (∀ p ∈ cs, h.get? p.2 = some { cls := .none, data := .fields #[] }) ∧ (∀ p ∈ cs, (K w.params).lookup p.2 = none) ∧ (∀ p ∈ cs, PySem.W.CodeHd h p.1 p.2) ∧ (∀ (s : Shared) (u : Value), BindsTo s fd ⟨[u], []⟩ [(x, u)]) ∧
        (∀ (H : Hp) (a : Addr) (ns : List Int), ns.length ≤ n → (∀ p ∈ cs, H p.2 = some (.tbl #[])) → SqL (K w.params) H a (ns.map V.int) → sp w [.ref a] H (fun v _ => v = .bl true) E0) ∧
        ∀ base : Heap, (K w.params).In base → base.Ns mainGlobals mg → (∀ p ∈ cs, GxR.TabB base mg p.1 p.2) → FnG l.prog w (K w.params) mg base k fa fd [x] (sp w)) :
    PySem.W.WalkO q loose XP YP l.row.toRowW d [] (fun f vs => PySem.call f vs) := by
  apply Att.attach_call hn hdf
  intro w s₀ s₁ mg mb fa o pm cd doc a vs ns G Y _ _ _ hmg hobj hints hlen hg
  have KX := hY w _ Y
  have empty : TabE (K w.params) y mg s₁.heap := by
    intro f c T o1 fd1 e dd us sl k0 k1 k2 k3 k4 k5
    obtain ⟨dL, mem, nm⟩ := List.any_eq_true.mp hrec
    obtain ⟨a2, o2, fd2, c2, T2, h1, h2, h3, h4, _, ⟨oc, vc, t1, _, t3, t4⟩, hT⟩ := G.T.tab dL mem
    rw [beq_iff_eq.mp nm, k0] at h1
    cases h1
    rw [KX _ _ k1] at h2
    cases h2
    rw [k2] at h3
    cases h3
    rw [k3] at h4
    cases h4
    rw [KX _ _ k4] at t1
    cases t1
    cases t3
    rw [k5] at t4
    cases t4
    exact hT
  obtain ⟨fd, cs, hT, nT, hC, hb, hsp, hF⟩ := F w mg fa _ KX G.T.g hmg empty
  exact law_callGT KX G.T.g G.T.b G.T.builtins G.T.nolimit hg hT nT hC G.T.bmain hobj hints (Nat.le_trans hlen hn2) hr hF hb fun H hH hS => hsp H a ns hlen hH hS
theorem walk_ofGK {l : PySem.W.OpenLaw} {n k : Nat} {q : Program} {loose : List Str} {XP : (Str → Option Value) → Heap → Prop} {YP : World → Heap → Prop} {d : DefRec} {K : Params → PySem.W.Frag} {sp : PySem.W.Frag → Addr → Sp} {PA : Addr} {x y : Str}
    (hn : l.most = some n) (hn2 : n ≤ sizeLine) (hdf : d.params.defaults = []) (hr : Room k callerA) (hrec : ((recsOf q).any fun e => e.name == y) = true) (hY : ∀ (w : World) (h : Heap), YP w h → (K w.params).In h)
    (F : ∀ (w : World) (mg : Str → Option Value) (fa : Addr) (h : Heap), (K w.params).In h → h.Ns mainGlobals mg → mg d.name = some (.ref fa) → TabE (K w.params) y mg h →
      ∃ (fd : FuncData) (cs : List (Addr × Addr)), (∀ p ∈ cs, h.get? p.2 = some { cls := .none, data := .fields #[] }) ∧ (∀ p ∈ cs, (K w.params).lookup p.2 = none) ∧ (∀ p ∈ cs, PySem.W.CodeHd h p.1 p.2) ∧ (∀ (s : Shared) (u : Value), BindsTo s fd ⟨[u], []⟩ [(x, u)]) ∧
        (∀ (H : Hp) (a : Addr) (ns : List Int), ns.length ≤ n → (∀ p ∈ cs, H p.2 = some (.tbl #[])) → SqL (K w.params) H a (ns.map V.int) → sp (K w.params) PA [.ref a] H (fun v _ => v = .bl true) E0) ∧
        ∀ base : Heap, (K w.params).In base → base.Ns mainGlobals mg → (∀ p ∈ cs, GxR.TabB base mg p.1 p.2) → FnG l.prog w (K w.params) mg base k fa fd [x] (sp (K w.params) PA)) :
    PySem.W.WalkO q loose XP YP l.row.toRowW d [] (fun f vs => PySem.call f vs) :=
  walk_ofGT (sp := fun w => sp (K w.params) PA) hn hn2 hdf hr hrec hY F
end Jf
set_option Elab.async false
set_option linter.all false
set_option maxRecDepth 100000
set_option maxHeartbeats 4000000
namespace Jf
open PySem PySem.Spec PyProof.Rows L2 Evl
/-! ### sum of a generator over a list of pairs of ints, with one captured int -/
/-- the generator's own scope: two names, one captured -/
structure GenT (scope : Scope) (xa xb xc : Str) : Prop where
  kind : scope.kind = .function
  co : scope.isCoroutine = false
  cell : ∀ y ∈ scope.names, y.2 ≠ .cell
  dot : scope.names.lookup (".0" : Str) = some NameKind.local
  la : scope.names.lookup xa = some .local
  lb : scope.names.lookup xb = some .local
  lc : scope.names.lookup xc = some .free
  ne : xa ≠ xb
  only : ∀ y ∈ scope.names, y.2 = .free → y.1 = xc
  clo : ∀ cells : List (Str × Addr), (cloFrom cells scope.names []).lookup xc = some ((cells.lookup xc).getD 0)
/-- the element: an int of the two and the captured one -/
def EltT (prog : Program) (w : World) (scope : Scope) (xa xb xc : Str) (elt : Expr) (ok : Int → Int → Int → Prop) (g : Int → Int → Int → Int) : Prop :=
  ∀ (cenv : Env) (B : Around) (E : Value → Shared → Prop) (a b d : Int) (ta tb td : Tok) (c : Addr) (s : Shared) (m : Str → Option Value), cenv.scope = scope → ok a b d → s.heap.Ns cenv.locals m → m xa = some (.int a ta) → m xb = some (.int b tb) →
    cenv.cells.lookup xc = some c → s.heap.IsCell c (some (.int d td)) → wpAny (model prog w) B (eval elt cenv) (fun y s1 => (∃ t, y = .int (g a b d) t) ∧ Keeps s s1) E s
abbrev Prs := List (Addr × Int × Int)
def valP (ps : Prs) (d : Int) (g : Int → Int → Int → Int) (j : Nat) : Int := match ps[j]? with
  | some p => g p.2.1 p.2.2 d
  | none => 0
theorem valP_some {ps : Prs} {d : Int} {g : Int → Int → Int → Int} {j : Nat} {p : Addr × Int × Int} (h : ps[j]? = some p) : valP ps d g j = g p.2.1 p.2.2 d := by
  unfold valP
  rw [h]
def sumP (ps : Prs) (d : Int) (g : Int → Int → Int → Int) : Int := (ps.map fun p => g p.2.1 p.2.2 d).sum
theorem preSum_sumP (ps : Prs) (d : Int) (g : Int → Int → Int → Int) : preSum (valP ps d g) ps.length = sumP ps d g := by
  have step : ∀ n, n ≤ ps.length → preSum (valP ps d g) n = sumP (ps.take n) d g := by
    intro n
    induction n with
    | zero => intro _; rfl
    | succ n ih =>
      intro h
      have hn : n < ps.length := h
      have e := List.getElem?_eq_getElem hn
      show preSum (valP ps d g) n + valP ps d g n = _
      rw [ih (Nat.le_of_lt hn), valP_some e, List.take_succ, e]
      unfold sumP
      simp only [Option.toList_some, List.map_append, List.sum_append, List.map_cons, List.map_nil, List.sum_cons, List.sum_nil, Int.add_zero]
  rw [step _ (Nat.le_refl _), List.take_length]
section
variable {X : Cx} {pins : List (Addr × Obj)} {σ : L2.St} {H : Hp} {s : Shared}
/-- the generator's code: found in the def's table, or put there -/
theorem gcode {env : Env} {scope : Scope} {gpos : Pos} {nm : Str} {c P : Addr} {tb : Array Value} {s2 : Shared} {prog : Program} {w : World} {A : Around} {E : Value → Shared → Prop} {Ψ : Value → Shared → Prop} (hcode : env.code = .ref c)
    (cd : PySem.W.CodeHd s2.heap c P) (hP : s2.heap.get? P = some { cls := .none, data := .fields tb }) (ht : TriplesOk tb.toList)
    (rest : ∀ (code : Value) (h3 : Heap) (n3 : Nat) (tb3 : Array Value), Heap.ExtBut P s2.heap h3 → s2.heap.objs.size ≤ h3.objs.size → h3.get? P = some { cls := .none, data := .fields tb3 } → (∃ more, tb3 = tb ++ more) → TriplesOk tb3.toList → Ψ code { s2 with heap := h3, toks := n3 }) :
    wpAny (model prog w) A (genexprCode env gpos nm scope) Ψ E s2 := by
  cases found : codeAmong gpos tb.toList with
  | some cv =>
    apply wpAny_genexprCode_hit hcode (cd.code hP ht) found
    exact rest cv s2.heap s2.toks tb (Heap.ExtBut.refl _ _) (Nat.le_refl _) hP ⟨#[], by simp⟩ ht
  | none =>
    apply wpAny_genexprCodeX hcode (cd.code hP ht) (cd.tab hP) found
    intro c' h' n' hx ge lt co _ tab _
    obtain ⟨_, _, _, _, _, _, _, _, _, _, _, _, _, _, _, _, _, _, _, tr, _⟩ := co
    exact rest _ h' n' _ hx (Nat.le_trans ge (Nat.le_of_lt lt)) tab.2 ⟨_, rfl⟩ tr
/-- ready to be walked -/
def ReadyP (X : Cx) (pins : List (Addr × Obj)) (σ : L2.St) (H1 : Hp) (P : Addr) (ps : Prs) (d : Int) (g : Int → Int → Int → Int) (a : Addr) (s5 : Shared) : Prop :=
  ∃ (fp wr : List Addr) (G : Array GenState → Array GenState → Prop) (F : Nat → Value → Prop) (St : Nat → Shared → Prop),
    WalksS X.prog X.w X.A.in1 a fp wr G ps.length F St ∧ St 0 s5 ∧ (∀ b ∈ fp, b < s5.heap.objs.size) ∧ (∀ j v, F j v → ∃ t, v = .int (valP ps d g j) t) ∧ ∀ s', Moved wr G s5 s' → ∃ H2, GxR.Tabbed P H1 H2 ∧ Inv X pins σ H2 s'
/-- what the walked list holds -/
def PrsAt (K : PySem.W.Frag) (H : Hp) (yl : Addr) (ps : Prs) : Prop := SqL K H yl (ps.map fun p => V.ref p.1) ∧ ∀ p ∈ ps, SqT K H p.1 [.int p.2.1, .int p.2.2]
theorem gen_prs {c P : Addr} {elt iter : Expr} {xa xb xc : Str} {pa pb pt gpos : Pos} {kt ic k : Nat} {scope : Scope} {ok : Int → Int → Int → Prop} {g : Int → Int → Int → Int} {te : TE} {Q' : Value → Shared → Prop} {R : Prs → Int → Hp → Prop}
    (hr : Room k X.A) (TB : GxR.TabB X.base X.mg c P) (hcode : X.env.code = .ref c) (S : GenT scope xa xb xc) (hN : X.N[ic]? = some xc) (hk : X.env.kindOf xc = some .cell) (hi : PE X iter te) (hel : EltT X.prog X.w scope xa xb xc elt ok g)
    (hs : ∀ v, genFold iter X.env v = pure v) (I : Inv X pins σ H s)
    (h : te σ H fun v H1 => ∃ (yl : Addr) (ps : Prs) (d : Int), v = .ref yl ∧ PrsAt X.K H1 yl ps ∧ (∀ p ∈ ps, ok p.2.1 p.2.2 d) ∧ σ[ic]? = some (some (.int d)) ∧ GxR.TabG H1 P ∧ R ps d H1)
    (hQ : ∀ ps d H1 a s5, R ps d H1 → ReadyP X pins σ H1 P ps d g a s5 → Q' (.ref a) s5) :
    wpAny (model X.prog X.w) X.A (eval (.GeneratorExp elt [⟨.Tuple [.Name xa pa, .Name xb pb] kt pt, iter, [], 0⟩] scope gpos) X.env) Q' X.xe s := by
  obtain ⟨cc, hcc⟩ := I.ok.has xc (.inl hk)
  have hfree : ∀ y ∈ scope.names, y.2 = .free → ∃ c, X.env.cells.lookup y.1 = some c := fun y hy hf => ⟨cc, by rw [S.only y hy hf]; exact hcc⟩
  have hclo : (cloFrom X.env.cells scope.names []).lookup xc = some cc := by rw [S.clo, hcc]; rfl
  apply wpAny_GeneratorExp_walksQT hr.hd S.co (closure_ok hfree) S.cell S.dot S.la S.lb S.ne S.kind (by have := hr.dp; omega) (hs := hs)
  apply thn (hi.run pins s σ H _ I h)
  rintro xv s1 ⟨v, H1, I1, r1, yl, ps, d, rfl, ⟨hyl, hT⟩, hok, hd, ⟨tb, hP, ht⟩, q1⟩
  obtain rfl : xv = Value.ref yl := r1
  obtain ⟨its, rv, pl, hz⟩ := I1.list hyl
  have lst := pl.isList
  have nits : its.length = ps.length := by rw [← rv.length, List.length_map]
  have iat : ∀ (j : Nat) (p : Addr × Int × Int), ps[j]? = some p → its[j]? = some (Value.ref p.1) := by
    intro j p hp
    have e : (ps.map fun (p : Addr × Int × Int) => V.ref p.1)[j]? = some (V.ref p.1) := by rw [List.getElem?_map, hp]; rfl
    obtain ⟨u, hu, ru⟩ := rv.get e
    cases (show u = Value.ref p.1 from ru)
    exact hu
  have tup : ∀ j : Nat, ∃ uv : Tok × Tok, ∀ p : Addr × Int × Int, ps[j]? = some p → s1.heap.IsTuple p.1 #[.int p.2.1 uv.1, .int p.2.2 uv.2] := by
    intro j
    cases hj : ps[j]? with
    | none => exact ⟨(0, 0), fun p z => nomatch z⟩
    | some p =>
      obtain ⟨ts, tv, ⟨o, e1, e2, n, e3⟩, _⟩ := I1.tuple (hT p (List.mem_of_getElem? hj))
      cases tv with
      | cons ra rb =>
        cases rb with
        | cons rb rc =>
          cases rc
          obtain ⟨u, rfl⟩ := _root_.id ra
          obtain ⟨v, rfl⟩ := _root_.id rb
          refine ⟨(u, v), fun q z => ?_⟩
          cases z
          exact ⟨o, e1, e2, n, e3⟩
  obtain ⟨tk, htk⟩ := Classical.skolem.mp tup
  obtain ⟨uc, td, huc⟩ : ∃ (uc : Value) (td : Tok), uc = .int d td ∧ s1.heap.IsCell cc (some uc) := by
    obtain ⟨m, _, hm⟩ := I1.loc
    obtain ⟨u, ru, lk⟩ := hm ic xc (.int d) hN hd (.inr (.inl hk))
    obtain ⟨td, rfl⟩ := _root_.id ru
    rcases lk with ⟨z, _⟩ | ⟨_, c2, e2, hc2⟩
    · rw [hk] at z
      cases z
    · rw [hcc] at e2
      cases e2
      exact ⟨_, td, rfl, hc2⟩
  obtain ⟨rfl, hcell⟩ := huc
  let Ts : Nat → Addr := fun j => ((ps[j]?).map fun (p : Addr × Int × Int) => p.1).getD 0
  let vs : Nat → Array Value := fun j => ((ps[j]?).map fun (p : Addr × Int × Int) => (#[.int p.2.1 (tk j).1, .int p.2.2 (tk j).2] : Array Value)).getD #[.none, .none]
  have pat : ∀ j, j < its.toArray.size → ∃ p : Addr × Int × Int, ps[j]? = some p := fun j hj => by
    have : j < ps.length := by simpa [nits] using hj
    exact ⟨ps[j], List.getElem?_eq_getElem this⟩
  have tsT : ∀ j, j < its.toArray.size → s1.heap.IsTuple (Ts j) (vs j) := fun j hj => by
    obtain ⟨p, e⟩ := pat j hj
    have := htk j p e
    simpa only [Ts, vs, e, Option.map_some, Option.getD_some] using this
  have tlt : ∀ j, j < its.toArray.size → Ts j < s1.heap.objs.size := fun j hj => by
    obtain ⟨_, e, _⟩ := tsT j hj
    exact Heap.lt_size e
  have hit : ∀ j, j < its.toArray.size → its.toArray[j]? = some (.ref (Ts j)) := fun j hj => by
    obtain ⟨p, e⟩ := pat j hj
    have := iat j p e
    simpa only [Ts, e, Option.map_some, Option.getD_some, List.getElem?_toArray] using this
  have ylt : yl < s1.heap.objs.size := by
    obtain ⟨_, e, _⟩ := _root_.id lst
    exact Heap.lt_size e
  have WW := fun (B : Around) (hB : B.handled = none) => (WalksU.listOfTuples (prog := X.prog) (w := X.w) hB s1.heap.objs.size yl (Nat.ne_of_lt ylt) its.toArray Ts vs hit fun j hj => Nat.ne_of_lt (tlt j hj)).bound
  apply wpAny_pyIter_list lst
  generalize ho : ({ cls := .type "list_iterator", data := .fields #[.ref yl, .int 0 0] } : Obj) = it0
  have iter0 : (s1.heap.push it0).IsListIter s1.heap.objs.size yl 0 := by
    subst ho
    exact ⟨_, Heap.get?_push_size _ rfl, rfl, rfl⟩
  have old : ∀ b u, s1.heap.get? b = some u → (s1.heap.push it0).get? b = some u := fun b u e => Heap.get?_push_of_some _ e
  have tabS : s1.heap.get? P = some { cls := .none, data := .fields tb } := I1.hok P _ hP
  have Plt : P < s1.heap.objs.size := Heap.lt_size tabS
  have lim2 : (s1.heap.push it0).NoLimit := I1.nolimit.push it0
  refine ⟨lim2, ?_⟩
  refine gcode (s2 := { s1 with heap := s1.heap.push it0 }) hcode (TB.code.keeps fun b u e => old b u (I1.bk b u e)) (old _ _ tabS) ht fun code h3 n3 tb3 hx hsz hP3 hmore ht3 => ?_
  obtain ⟨bm, ob, e1, e2, e3, e4, e5, e6, e7, e8⟩ := TB.bm
  have keep3 : ∀ b u, b ≠ P → s1.heap.get? b = some u → h3.get? b = some u := fun b u hb e => hx b u hb (old b u e)
  have sz3 : s1.heap.objs.size < h3.objs.size := by
    have e : (s1.heap.push it0).objs.size = s1.heap.objs.size + 1 := Heap.size_push ..
    have hsz' : (s1.heap.push it0).objs.size ≤ h3.objs.size := hsz
    omega
  have cP : cStatics ≠ P := fun e => by
    obtain ⟨_, hns, _⟩ := I1.nolimit
    obtain ⟨o', es, ep, ho', hd', _⟩ := hns
    rw [e, tabS] at ho'
    cases ho'
    cases hd'
  have clt : cStatics < s1.heap.objs.size := by
    obtain ⟨_, hns, _⟩ := I1.nolimit
    exact hns.lt
  apply wpAny_builtinsFor (m := X.mg) (by rw [I1.ok.glob]; exact ((I1.mod.glob.keeps I1.bk).push it0).extBut hx TB.gP) e1 e2 (keep3 _ _ e4 (I1.bk _ _ e5)) e6 e7 e8
  have yP : yl ≠ P := fun z => by
    obtain ⟨_, e, hc1, _, hd1⟩ := _root_.id lst
    rw [z, tabS] at e
    cases e
    cases hd1
  have tP : ∀ j, j < its.toArray.size → Ts j ≠ P := fun j hj z => by
    obtain ⟨_, e, hc1, _⟩ := tsT j hj
    rw [z, tabS] at e
    cases e
    cases hc1
  have ccP : cc ≠ P := fun z => by
    obtain ⟨o, e, hc1⟩ := _root_.id hcell
    rw [z, tabS] at e
    cases e
    cases hc1
  have cclt : cc < s1.heap.objs.size := by
    obtain ⟨o, e, _⟩ := _root_.id hcell
    exact Heap.lt_size e
  have lst3 : h3.IsList yl its.toArray := by
    obtain ⟨ob, e, r⟩ := _root_.id lst
    exact ⟨ob, keep3 _ _ yP e, r⟩
  have iter3 : h3.IsListIter s1.heap.objs.size yl 0 := iter0.at fun u e => hx _ u (Nat.ne_of_gt Plt) e
  have ts3 : ∀ j, j < its.toArray.size → h3.IsTuple (Ts j) (vs j) := fun j hj => (tsT j hj).at fun o e => keep3 _ _ (tP j hj) e
  have cell3 : h3.IsCell cc (some (.int d td)) := by
    obtain ⟨o, e, r⟩ := _root_.id hcell
    exact ⟨o, keep3 _ _ ccP e, r⟩
  refine ⟨s1.heap.objs.size, _, _, _, _, _, _, (fun _ => true), (fun i y => ∃ (p : Addr × Int × Int) (t : Tok), ps[i]? = some p ∧ y = .int (g p.2.1 p.2.2 d) t), rfl, WW, ?_, ⟨iter3, lst3, ts3⟩, ?_, lim2.extBut hx cP, ?_, ?_, ?_⟩
  · rintro i v ⟨hi, rfl⟩
    obtain ⟨p, e⟩ := pat i hi
    exact ⟨.int p.2.1 (tk i).1, .int p.2.2 (tk i).2, by simp only [vs, e, Option.map_some, Option.getD_some]⟩
  · intro b hb
    show b < h3.objs.size
    rcases List.mem_cons.mp hb with rfl | hb
    · exact sz3
    · rcases List.mem_cons.mp hb with rfl | hb
      · exact Nat.lt_trans ylt sz3
      · obtain ⟨j, hj, rfl⟩ := List.mem_map.mp hb
        exact Nat.lt_trans (tlt j (List.mem_range.mp hj)) sz3
  · intro z
    rcases List.mem_cons.mp z with z | z
    · exact Nat.ne_of_lt clt z
    · cases z
  · intro href hhref
    refine ⟨fun B E' i va vb s₂ m₂ hB hPv hn ha hb hk => ?_, fun B E' i va vb s₂ m₂ hB hPv hp hn ha hb hk => ?_⟩
    · simp only [List.forIn_nil]
      exact wpAny_pure ⟨rfl, GxR.keeps_refl _⟩
    · obtain ⟨hi, ev⟩ := hPv
      obtain ⟨p, e⟩ := pat i hi
      simp only [vs, e, Option.map_some, Option.getD_some] at ev
      obtain ⟨rfl, rfl⟩ : va = .int p.2.1 (tk i).1 ∧ vb = .int p.2.2 (tk i).2 := by simpa using congrArg Array.toList ev
      have c2 : s₂.heap.IsCell cc (some (.int d td)) := by
        obtain ⟨o, e9, r⟩ := _root_.id cell3
        refine ⟨o, hk cc ?_ ?_ o (hhref _ _ e9), r⟩
        · exact List.mem_range.mpr (Nat.lt_trans cclt sz3)
        · intro z
          rcases List.mem_cons.mp z with z | z
          · exact Nat.ne_of_lt cclt z
          · cases z
      exact wpAny_mono (hel _ B E' p.2.1 p.2.2 d _ _ td cc s₂ m₂ rfl (hok p (List.mem_of_getElem? e)) hn ha hb hclo c2) (fun y s3 r => ⟨⟨p, r.1.choose, e, r.1.choose_spec⟩, r.2⟩) fun _ _ e => e
  · intro a h5 n5 gs bare gt hsz5 hk5 W5 at5
    simp only [GxR.passing_true, List.length_range] at W5
    have nI : its.toArray.size = ps.length := by rw [List.size_toArray, nits]
    rw [nI] at W5 at5
    refine hQ ps d H1 a _ q1 ⟨_, _, _, _, _, W5.in4_1, at5, ?_, fun j v hv => ?_, fun s' mv => ?_⟩
    · intro b hb
      show b < h5.objs.size
      have e5 : h5.objs.size = a + 1 := hsz5
      have e3 : h3.objs.size < a := gt
      rw [e5]
      rcases List.mem_cons.mp hb with rfl | hb
      · exact Nat.lt_succ_self _
      · rcases List.mem_cons.mp hb with rfl | hb
        · exact Nat.lt_succ_of_lt e3
        · exact Nat.lt_succ_of_lt (Nat.lt_trans (show b < h3.objs.size from List.mem_range.mp hb) e3)
    · obtain ⟨i, hij, p, t, e, rfl⟩ := hv
      obtain ⟨hj, ej⟩ := List.getElem?_eq_some_iff.mp hij
      rw [List.getElem_range] at ej
      subst ej
      exact ⟨t, by rw [valP_some e]⟩
    · obtain ⟨more, em⟩ := hmore
      have apart : ∀ b u, s1.heap.get? b = some u → b ∉ h3.objs.size :: [s1.heap.objs.size] := by
        intro b u e hb
        have l := Heap.lt_size e
        rcases List.mem_cons.mp hb with z | z
        · rw [z] at l
          exact Nat.lt_asymm (show h3.objs.size < s1.heap.objs.size from l) sz3
        · rcases List.mem_cons.mp z with z | z
          · rw [z] at l
            exact Nat.lt_irrefl _ l
          · cases z
      have J := GxR.inv_tab (more := more) (h' := s'.heap) (g' := s'.gens) (d' := s'.drawn) (t' := s'.toks) I1 hP (fun b u hb e => mv.heap b u (apart b u e) (hk5 b u (keep3 b u hb e)))
        (by rw [← em]; exact mv.heap P _ (apart P _ tabS) (hk5 P _ hP3)) (AllBare.movedS (I1.bare.push bare) mv)
      rw [GxR.sh_eta s1 s' mv.os] at J
      exact ⟨_, ⟨⟨tb ++ more, upd_same, by rw [← em]; exact ht3⟩, fun b hb => upd_ne hb⟩, J⟩
/-- sum(elt for xa, xb in te); behind it the def's table may have grown -/
def tSumP (K : PySem.W.Frag) (P : Addr) (ok : Int → Int → Int → Prop) (g : Int → Int → Int → Int) (ic : Nat) (te : TE) : TE := fun σ H Q => te σ H fun v H1 =>
  ∃ (yl : Addr) (ps : Prs) (d : Int), v = .ref yl ∧ PrsAt K H1 yl ps ∧ (∀ p ∈ ps, ok p.2.1 p.2.2 d) ∧ σ[ic]? = some (some (.int d)) ∧ GxR.TabG H1 P ∧ ∀ H2, GxR.Tabbed P H1 H2 → Q (.int (sumP ps d g)) H2
theorem pe_sumP {c P : Addr} {elt iter : Expr} {xa xb xc : Str} {pa pb pt gpos p pos : Pos} {kt ic k : Nat} {scope : Scope} {ok : Int → Int → Int → Prop} {g : Int → Int → Int → Int} {te : TE}
    (hr : Room k X.A) (hg : Gl X "sum") (hm : X.mg "sum" = none) (TB : GxR.TabB X.base X.mg c P) (hcode : X.env.code = .ref c) (S : GenT scope xa xb xc) (hN : X.N[ic]? = some xc) (hk : X.env.kindOf xc = some .cell) (hi : PE X iter te) (hel : EltT X.prog X.w scope xa xb xc elt ok g)
    (hs : ∀ v, genFold iter X.env v = pure v) (hb : bootBuiltins "sum" = some (.builtin "sum") := by decide +kernel)
    (he : starEach [.GeneratorExp elt [⟨.Tuple [.Name xa pa, .Name xb pb] kt pt, iter, [], 0⟩] scope gpos] X.env = (false, eval (.GeneratorExp elt [⟨.Tuple [.Name xa pa, .Name xb pb] kt pt, iter, [], 0⟩] scope gpos) X.env) :: starEach [] X.env := by rfl) :
    PE X (.Call (.Name "sum" p) [.GeneratorExp elt [⟨.Tuple [.Name xa pa, .Name xb pb] kt pt, iter, [], 0⟩] scope gpos] [] pos) (tSumP X.K P ok g ic te) := by
  constructor
  intro pins s σ H Q I want
  apply wpAny_Call_Name_kw (ld_blt I hg hm hb ?_)
  apply PyProof.Rows.callWith_builtin1 ?_ he (by rfl)
  rw [he]
  show wpAny _ _ (spliced ((false, eval (.GeneratorExp elt [⟨.Tuple [.Name xa pa, .Name xb pb] kt pt, iter, [], 0⟩] scope gpos) X.env) :: backTo pos (starEach [] X.env))) _ _ s
  apply Calls.spliced_cons (gen_prs (R := fun ps d H1 => ∀ H2, GxR.Tabbed P H1 H2 → Q (.int (sumP ps d g)) H2) hr TB hcode S hN hk hi hel hs I want ?_)
  intro ps d H1 a s5 k5 ready
  obtain ⟨fp, wr, G, F, St, W, st0, below, vals, ends⟩ := ready
  apply Calls.spliced_nil
  apply call_sum_walkAnyS
  refine W.self 0 _ _ _ st0 ⟨a, fp, wr, G, _, F, St, valP ps d g, rfl, W, st0, below, vals, fun s' t' mv => ?_⟩
  obtain ⟨H2, tabbed, J⟩ := ends s' mv
  rw [preSum_sumP]
  exact ⟨.int _, H2, J, ⟨t', rfl⟩, k5 H2 tabbed⟩
end
/-! ### the element top * (bottom // below) -/
def okCut (a b d : Int) : Prop := CDivZ d b ∧ CMulW a (d.fdiv b)
def gCut (a b d : Int) : Int := a * d.fdiv b
theorem elt_cut {prog : Program} {w : World} {scope : Scope} {xa xb xc : Str} {p1 p2 p3 p4 p5 : Pos} (S : GenT scope xa xb xc) (da : (xa == ("__debug__" : Str)) = false := by decide) (db : (xb == ("__debug__" : Str)) = false := by decide) (dc : (xc == ("__debug__" : Str)) = false := by decide)
    (dk : (xc == ("__classdict__" : Str)) = false := by decide) :
    EltT prog w scope xa xb xc (.BinOp (.Name xa p1) .Mult (.BinOp (.Name xc p2) .FloorDiv (.Name xb p3) p4) p5) okCut gCut := by
  intro cenv B E a b d ta tb td c s m hs ho hn ha hb hc hcell
  have kf : cenv.scope.kind = .function := by rw [hs]; exact S.kind
  have la : cenv.kindOf xa = some .local := by show cenv.scope.names.lookup xa = _; rw [hs]; exact S.la
  have lb : cenv.kindOf xb = some .local := by show cenv.scope.names.lookup xb = _; rw [hs]; exact S.lb
  have lc : cenv.kindOf xc = some .free := by show cenv.scope.names.lookup xc = _; rw [hs]; exact S.lc
  apply wpAny_BinOp
  apply wpAny_Name (wpAny_loadName_local kf la hn ha ?_) da
  apply wpAny_BinOp
  apply wpAny_Name (wpAny_loadName_free kf lc hc hcell ?_ dk) dc
  apply wpAny_Name (wpAny_loadName_local kf lb hn hb ?_) db
  apply floordiv_int ho.1.1 ?_ (.inl (PyProof.noPylong_of_log2 ho.1.2))
  apply mul_int ?_ ho.2.ok
  exact ⟨⟨_, rfl⟩, GxR.keeps_tok _ _⟩
end Jf
set_option Elab.async false
set_option linter.all false
set_option maxRecDepth 100000
set_option maxHeartbeats 4000000
namespace Jf
open PySem PySem.Spec PyProof.Rows L2 Evl GxR GenW
/-! ### all(e for x in a tuple), e of any kind that the layer reads -/
/-- the inner scope: one name, nothing captured -/
structure OneN (scope : Scope) (x : Str) : Prop where
  kind : scope.kind = .function
  co : scope.isCoroutine = false
  cell : ∀ y ∈ scope.names, y.2 ≠ .cell
  dot : scope.names.lookup (".0" : Str) = some NameKind.local
  loc : scope.names.lookup x = some .local
  free : ∀ y ∈ scope.names, y.2 ≠ .free
  ne : (".0" : Str) ≠ x
/-- the inner context: the callers' frames behind it, the walked iterator free to turn -/
def gxOf (X : Cx) (x : Str) (s : Shared) (H : Hp) (cenv : Env) (B : Around) (I : Addr) : Cx where
  prog := X.prog
  w := X.w
  K := X.K
  mg := X.mg
  base := X.base
  A := B
  N := [".0", x]
  s_0 := s
  H_0 := H
  env := cenv
  outer := X.stack
  stack := cenv :: X.stack
  ex := [I]
  fn := fun _ => true
  calm := true
  pn := []
  xe := fun _ _ => False
/-- the reading: from the left, till one says no -/
def rdAll (te : TE) : List V → Hp → (Bool → Hp → Prop) → Prop
  | [], H, Q => Q true H
  | v :: vs, H, Q => te [none, some v] H fun r H' => ∃ b, r = .bl b ∧ (b = true → rdAll te vs H' Q) ∧ (b = false → Q false H')
section
variable {X : Cx}
/-- where the generator stands: its object, its iterator -/
def gPins (a I t : Addr) (go : Obj) (i : Nat) (io : Obj) : List (Addr × Obj) := [(a, go), (I, io)]
def GInv (Y : Cx) (a I t : Addr) (go : Obj) (i : Nat) (H : Hp) (s : Shared) : Prop :=
  ∃ (σ : L2.St) (io : Obj), σ.length = 2 ∧ σ[0]? = some none ∧ io.cls = .type "tuple_iterator" ∧ io.data = .fields #[.ref t, .int i 0] ∧ Inv Y [(a, go), (I, io)] σ H s
def gDone (Y : Cx) (Q : Bool → Hp → Prop) (_ : Nat) (_ s : Shared) : Prop := ∃ σ H, Inv Y [] σ H s ∧ Q true H
def gEnd (Y : Cx) (Q : Bool → Hp → Prop) : GenEnd := fun n s₀ r s => ((r = .ok (.ret .none) ∨ r = .ok .next) ∧ gDone Y Q n s₀ s) ∨ ∃ e, r = .error e ∧ False
def gProt (Y : Cx) (a I t : Addr) (go : Obj) (Q : Bool → Hp → Prop) : Protocol := fun _ _ v s kap =>
  ∃ b i H, v = .bool b ∧ GInv Y a I t go i H s ∧ (b = false → Q false H) ∧ (b = true → ∀ s', s'.os = s.os → AllBare s'.gens → s'.heap = s.heap → kap (.send .none) s')
theorem GInv.woke {Y : Cx} {a I t : Addr} {go : Obj} {i : Nat} {H : Hp} {s s' : Shared} (h : GInv Y a I t go i H s) (o : s'.os = s.os) (g : AllBare s'.gens) (e : s'.heap = s.heap) : GInv Y a I t go i H s' := by
  obtain ⟨σ, io, l, z, c, d, J⟩ := h
  refine ⟨σ, io, l, z, c, d, J.call' (ch := []) o ?_ ?_ g fun b z => by simp at z⟩
  · rw [e]
    exact Un.kept fun _ _ q => q
  · rw [e]
    exact J.hok
theorem Inv.sqt {Y : Cx} {pins : List (Addr × Obj)} {σ : L2.St} {H : Hp} {s : Shared} {t : Addr} {xs : List V} (J : Inv Y pins σ H s) (h : SqT Y.K Y.H_0 t xs) : SqT Y.K H t xs := by
  rcases h with (h | ⟨o, h⟩) | h
  · exact .inl (.inl (J.base.tups _ _ h))
  · exact .inl (.inr ⟨o, J.base.frzs _ _ _ h⟩)
  · exact .inr h
theorem GInv.turn {Y : Cx} {a I : Addr} {go io : Obj} {σ : L2.St} {H : Hp} {s : Shared} {h' : Heap} (J : Inv Y [(a, go), (I, io)] σ H s) (hex : I ∈ Y.ex) (haI : a ≠ I) (hpn : Y.pn = []) (hcl : Y.env.cells = [])
    (k : ∀ b o, b ≠ I → s.heap.get? b = some o → h'.get? b = some o) : Inv Y [(a, go)] σ H { s with heap := h' } := by
  have pI := J.pin (I, io) (List.mem_append_right _ (by simp))
  have J0 : Inv Y [(a, go)] σ H s := J.pins_of fun p hp => J.pin p (List.mem_append_right _ (by
    rw [List.mem_singleton.mp hp]
    simp))
  refine J0.turned (t' := s.toks) k pI.2.1 pI.2.2.1 (.inl hex) (fun y c e => ?_) fun p hp => ?_
  · rw [hcl] at e
    cases e
  · rw [hpn, List.nil_append, List.mem_singleton] at hp
    rw [hp]
    exact haI
theorem seg_allLoop {Y : Cx} {Aw : Around} {elt iter : Expr} {x : Str} {px pos : Pos} {scope : Scope} {a I t : Addr} {go : Obj} {xs : List V} {te : TE} {Q : Bool → Hp → Prop}
    (hA : Aw.handled = none) (hY : Y.A = Aw.over (.compLoop (.GeneratorExp elt [⟨.Name x px, iter, [], 0⟩] scope pos) 0 (.ref I) .none Y.env) [])
    (hN : Y.N = [(".0" : Str), x]) (S : OneN scope x) (hsc : Y.env.scope = scope) (hcl : Y.env.cells = []) (hex : I ∈ Y.ex) (haI : a ≠ I) (hIt : t ≠ I) (hpn : Y.pn = []) (hxe : Y.xe = fun _ _ => False)
    (hel : PE Y elt te) (hT : SqT Y.K Y.H_0 t xs) (hgo : ∀ v, go.data ≠ .cell v) :
    ∀ (vs : List V) (i : Nat) (H : Hp) (s₀ s : Shared), xs.drop i = vs → GInv Y a I t go i H s → rdAll te vs H Q →
      Seg (model Y.prog Y.w) Aw (gEnd Y Q) (gProt Y a I t go Q) vs.length s₀ (.compLoop (.GeneratorExp elt [⟨.Name x px, iter, [], 0⟩] scope pos) 0 (.ref I) .none Y.env)
        ((model Y.prog Y.w).den (.compLoop (.GeneratorExp elt [⟨.Name x px, iter, [], 0⟩] scope pos) 0 (.ref I) .none Y.env)) [] s := by
  have hh' : (Aw.over (.compLoop (.GeneratorExp elt [⟨.Name x px, iter, [], 0⟩] scope pos) 0 (.ref I) .none Y.env) []).handled = none := hA
  have hco : Y.env.scope.isCoroutine = false := by rw [hsc]; exact S.co
  intro vs
  induction vs with
  | nil =>
    intro i H s₀ s hd hG hr
    obtain ⟨σ, io, l, z, hc, hdd, J⟩ := hG
    obtain ⟨its, rv, tp, _⟩ := J.tuple (Inv.sqt J hT)
    have pI := J.pin (I, io) (List.mem_append_right _ (by simp))
    have hlen : its.toArray[i]? = none := by
      have h1 := rv.length
      have h2 : xs.length ≤ i := List.drop_eq_nil_iff.mp hd
      rw [List.getElem?_toArray]
      exact List.getElem?_eq_none (by omega)
    show Seg _ Aw _ _ _ s₀ _ ((compTurn (.GeneratorExp elt [⟨.Name x px, iter, [], 0⟩] scope pos) 0 (.ref I) .none Y.env).onRaise (leaving Y.env)) [] s
    rw [compTurn_gen, Sem.onRaise_eq_wrap]
    refine seg_bind_wrap (wpAny_standAt ?_)
    refine seg_bind_wrap (wpAny_pyNext_tuple_end hh' ⟨io, pI.1, hc, hdd⟩ tp hlen fun h' hx => ?_)
    refine seg_end (.ok .next) (.inl ⟨.inr rfl, σ, H, ?_, hr⟩)
    exact (GInv.turn J hex haI hpn hcl fun b o hb e => hx b o hb e).pins_of fun p hp => by simp at hp
  | cons v vs ih =>
    intro i H s₀ s hd hG hr
    obtain ⟨σ, io, l, z, hc, hdd, J⟩ := hG
    obtain ⟨its, rv, tp, _⟩ := J.tuple (Inv.sqt J hT)
    have pI := J.pin (I, io) (List.mem_append_right _ (by simp))
    have pa := J.pin (a, go) (List.mem_append_right _ (by simp))
    have hxi : xs[i]? = some v := by
      have := congrArg (fun q : List V => q[0]?) hd
      simpa using this
    have hd2 : xs.drop (i + 1) = vs := by
      have := congrArg List.tail hd
      simpa [List.tail_drop] using this
    obtain ⟨u, hu, ru⟩ := rv.get hxi
    show Seg _ Aw _ _ _ s₀ _ ((compTurn (.GeneratorExp elt [⟨.Name x px, iter, [], 0⟩] scope pos) 0 (.ref I) .none Y.env).onRaise (leaving Y.env)) [] s
    rw [compTurn_gen, Sem.onRaise_eq_wrap]
    refine seg_bind_wrap (wpAny_standAt ?_)
    refine seg_bind_wrap (wpAny_pyNext_tuple_item (i := i) (x := u) ⟨io, pI.1, hc, hdd⟩ tp (by rw [List.getElem?_toArray]; exact hu) fun h' it' sb => ?_)
    obtain ⟨io', hio', hc', hd'⟩ := it'
    have J1 : Inv Y [(a, go), (I, io')] σ H { s with heap := h' } := by
      have J0 := GInv.turn J hex haI hpn hcl fun b o hb e => sb.extBut b o hb e
      refine J0.pins_of fun p hp => ?_
      rcases List.mem_cons.mp hp with rfl | hp
      · exact J0.pin _ (List.mem_append_right _ (by simp))
      · rw [List.mem_singleton] at hp
        subst hp
        exact ⟨hio', pI.2.1, pI.2.2.1, pI.2.2.2.1, fun v q => by rw [hd'] at q; cases q⟩
    refine seg_bind_wrap (wpAny_of_eq (rfl : letOwnedTupleGo (.Name x px) (.ref I) u = pure ()) ?_)
    have nd : Y.N.Nodup := by
      rw [hN]
      simp [S.ne]
    have lc : Loc Y.env.scope x := by
      rw [hsc]
      exact .inl S.loc
    refine seg_bind_wrap ?_
    rw [← hY]
    refine wpAny_mono ((pg_name (X := Y) (pos := px) (i := 1) (x := x) nd (by rw [hN]; rfl) lc (by right; rw [hsc]; exact S.loc)).run _ _ σ H v u (fun σ' H' => σ' = [none, some v] ∧ H' = H) J1 ru ?_) (fun _ s2 h2 => ?_) fun e s' hx => by rw [hxe] at hx; exact hx.elim
    · refine ⟨?_, rfl⟩
      match σ, l, z with
      | [none, y], _, _ => rfl
      | [some _, y], _, z => simp at z
    obtain ⟨σ2, H2, J2, rfl, rfl⟩ := h2
    refine seg_bind_wrap ?_
    simp only [List.forIn_nil]
    refine wpAny_pure ?_
    simp only [if_true]
    have hy : ∀ v, yieldOut Y.env v = yieldValue v := fun v => by simp only [yieldOut, hco, Bool.false_eq_true, if_false]
    simp only [hy]
    rw [Sem.bind_eq_wrap', Sem.bind_eq_wrap', Sem.wrap_wrap, Sem.wrap_wrap]
    refine seg_wrap ?_
    rw [← hY]
    refine wpAny_mono (hel.run _ _ _ _ _ J2 hr) (fun y s3 h3 => ?_) fun e s' hx => by rw [hxe] at hx; exact hx.elim
    obtain ⟨r, H3, J3, rr, b, rfl, ht, hf⟩ := h3
    obtain rfl : y = Value.bool b := rr
    have G3 : GInv Y a I t go (i + 1) H3 s3 := ⟨_, io', rfl, rfl, hc', hd', J3⟩
    refine seg_at (seg_yield rfl rfl rfl ⟨b, i + 1, H3, rfl, G3, hf, fun hb s' o g e => ?_⟩)
    exact seg_again rfl (ih (i + 1) H3 s' s' hd2 (G3.woke o g e) (ht hb))
end
theorem seg_allStart {Y : Cx} {Aw : Around} {elt iter : Expr} {x : Str} {px pos : Pos} {scope : Scope} {a I t : Addr} {go : Obj} {xs : List V} {te : TE} {Q : Bool → Hp → Prop}
    (hA : Aw.handled = none) (hY : Y.A = Aw.over (.compLoop (.GeneratorExp elt [⟨.Name x px, iter, [], 0⟩] scope pos) 0 (.ref I) .none Y.env) [])
    (hN : Y.N = [(".0" : Str), x]) (S : OneN scope x) (hsc : Y.env.scope = scope) (hcl : Y.env.cells = []) (hex : I ∈ Y.ex) (haI : a ≠ I) (hIt : t ≠ I) (hpn : Y.pn = []) (hxe : Y.xe = fun _ _ => False)
    (hel : PE Y elt te) (hT : SqT Y.K Y.H_0 t xs) (hgo : ∀ v, go.data ≠ .cell v) {H : Hp} {s₀ s : Shared} (hG : GInv Y a I t go 0 H s) (hr : rdAll te xs H Q) :
    Seg (model Y.prog Y.w) Aw (gEnd Y Q) (gProt Y a I t go Q) xs.length s₀ (.compStart (.GeneratorExp elt [⟨.Name x px, iter, [], 0⟩] scope pos) 0 (.ref I) .none Y.env)
      ((model Y.prog Y.w).den (.compStart (.GeneratorExp elt [⟨.Name x px, iter, [], 0⟩] scope pos) 0 (.ref I) .none Y.env)) [] s := by
  have go1 : ∀ s₀, Seg (model Y.prog Y.w) Aw (gEnd Y Q) (gProt Y a I t go Q) xs.length s₀ (.compStart (.GeneratorExp elt [⟨.Name x px, iter, [], 0⟩] scope pos) 0 (.ref I) .none Y.env) (.pure (.again (.compLoop (.GeneratorExp elt [⟨.Name x px, iter, [], 0⟩] scope pos) 0 (.ref I) .none Y.env))) [] s := fun s₀ => by
    apply seg_again rfl
    exact seg_allLoop hA hY hN S hsc hcl hex haI hIt hpn hxe hel hT hgo xs 0 H s₀ s (List.drop_zero ..) hG hr
  obtain ⟨σ, io, l, z, hc, hdd, J⟩ := hG
  obtain ⟨its, rv, tp, _⟩ := J.tuple (Inv.sqt J hT)
  have pI := J.pin (I, io) (List.mem_append_right _ (by simp))
  have hh : (Aw.over (.compStart (.GeneratorExp elt [⟨.Name x px, iter, [], 0⟩] scope pos) 0 (.ref I) .none Y.env) []).handled = none := hA
  have W := Walks.tuple (prog := Y.prog) (w := Y.w) hh I t hIt its.toArray
  have again := go1 s₀
  show Seg _ Aw _ _ _ s₀ _ ((compStart _ 0 (.ref I) .none Y.env).onRaise (leaving Y.env)) [] s
  unfold compStart
  rw [Sem.onRaise_eq_wrap]
  apply seg_bind_wrap (m := ask)
  apply wpAny_askSetting
  split
  · exact again
  · apply seg_bind_wrap
    apply wpAny_rule
    apply seg_bind_wrap
    apply wpAny_standAt
    apply seg_bind_wrap
    exact W.self 0 s _ _ ⟨⟨io, pI.1, hc, hdd⟩, tp⟩ again
/-- the generator's own object -/
structure GenO (go : Obj) (g : Nat) : Prop where
  cls : go.cls = .type "generator"
  data : ∃ nm qn, go.data = .fields #[.int g 0, nm, qn]
  slots : go.slots = #[]
theorem GenO.at {go : Obj} {g : Nat} {h : Heap} {a : Addr} (G : GenO go g) (e : h.get? a = some go) : h.IsGen a g := by
  obtain ⟨nm, qn, d⟩ := G.data
  exact ⟨go, nm, qn, e, G.cls, d, G.slots⟩
theorem inv_gens {Y : Cx} {σ : L2.St} {H : Hp} {s s' : Shared} {pins : List (Addr × Obj)} (J : Inv Y pins σ H s) (o : s'.os = s.os) (g : AllBare s'.gens) (k : ∀ b o, s.heap.get? b = some o → s'.heap.get? b = some o) : Inv Y pins σ H s' :=
  J.call' (ch := []) o (Un.kept k) (J.hok.kept k) g fun b z => by simp at z
theorem all_loop {Y : Cx} {A : Around} {a I t : Addr} {go : Obj} {g : Nat} {R : Result → Shared → Prop} {Q : Bool → Hp → Prop} (hh : A.handled = none) (hd : A.depth < recursionLimit) (G : GenO go g)
    (fin : ∀ b σ H s, Inv Y [] σ H s → Q b H → R (.ok (.ret (.bool b))) s) :
    ∀ (n : Nat) (s : Shared), s.heap.get? a = some go → s.heap.NoLimit → (∃ gs, s.gens[g]? = some gs ∧ gs.Goes (model Y.prog Y.w) A.in1.in1 (gEnd Y Q) (gProt Y a I t go Q) n (.send .none) (s.setGen g .running)) →
      codeAny (model Y.prog Y.w) A (.builtin "all.loop" ⟨[.ref a], []⟩) R s := by
  intro n
  induction n with
  | zero =>
    intro s ha hl ⟨gs, hgs, hgo⟩
    apply codeAny_builtin F.entry_all_loop
    rw [Around.under_plainId F.plain_all_loop _]
    show wpAny _ A.in1 (pyNext (.ref a) >>= _) _ _ s
    apply wpAny_bind
    apply next_genG (A := A.in1) (F := gDone Y Q) (Er := fun _ _ => False) hh hl hd (G.at ha) hgs hgo
    · intro v s1 gs' hb hv
      obtain ⟨b, i, H, rfl, hG, hf, ht⟩ := hv
      cases b with
      | true =>
        obtain ⟨_, _, _, _, _, _, J⟩ := hG
        exact False.elim (ht rfl s1 rfl J.bare rfl)
      | false =>
        obtain ⟨σ, io, _, _, _, _, J⟩ := hG
        apply wpAny_bind
        apply wpAny_holding
        apply wpAny_truthy_bool
        apply wpAny_bind
        apply wpAny_letGo
        show wpAny _ _ (rule _ >>= _) _ _ _
        apply wpAny_bind
        apply wpAny_rule
        apply wpAny_pure
        exact fin false σ H _ (inv_gens (J.pins_of fun p hp => by simp at hp) rfl (allBare_setGen J.bare hb) fun _ _ e => e) (hf rfl)
    · intro s1 hp h' hk
      obtain ⟨σ, H, J, q⟩ := hp
      show wpAny _ _ (rule _ >>= _) _ _ _
      apply wpAny_bind
      apply wpAny_rule
      apply wpAny_pure
      exact fin true σ H _ (inv_gens J rfl (allBare_setGen J.bare rfl) hk) q
    · intro e s1 he
      exact he.elim
  | succ n ih =>
    intro s ha hl ⟨gs, hgs, hgo⟩
    have hgl : g < s.gens.size := (Array.getElem?_eq_some_iff.mp hgs).1
    apply codeAny_builtin F.entry_all_loop
    rw [Around.under_plainId F.plain_all_loop _]
    show wpAny _ A.in1 (pyNext (.ref a) >>= _) _ _ s
    apply wpAny_bind
    apply wpAny_gsz (n := g + 1) hgl
    apply next_genG (A := A.in1) (F := gDone Y Q) (Er := fun _ _ => False) hh hl hd (G.at ha) hgs hgo
    · intro v s1 gs' hb hv hsz
      obtain ⟨b, i, H, rfl, hG, hf, ht⟩ := hv
      have hG' := hG
      obtain ⟨σ, io, _, _, _, _, J⟩ := hG'
      have pa := J.pin (a, go) (List.mem_append_right _ (by simp))
      apply wpAny_bind
      apply wpAny_holding
      apply wpAny_truthy_bool
      apply wpAny_bind
      apply wpAny_letGo
      cases b with
      | false =>
        show wpAny _ _ (rule _ >>= _) _ _ _
        apply wpAny_bind
        apply wpAny_rule
        apply wpAny_pure
        exact fin false σ H _ (inv_gens (J.pins_of fun p hp => by simp at hp) rfl (allBare_setGen J.bare hb) fun _ _ e => e) (hf rfl)
      | true =>
        simp only [if_true]
        have hsz1 : g < s1.gens.size := by
          have q : (s1.setGen g gs').gens.size = s1.gens.size := setGen_size _ _ _
          have : g + 1 ≤ (s1.setGen g gs').gens.size := hsz
          omega
        refine wpAny_pure ⟨plainId_quiet F.plain_all_loop _, ih (s1.setGen g gs') pa.1 J.nolimit ⟨gs', setGen_at hsz1, ?_⟩⟩
        exact ht rfl _ rfl (allBare_setGen (s := s1.setGen g gs') (allBare_setGen J.bare hb) rfl) rfl
    · intro s1 hp h' hk hsz
      obtain ⟨σ, H, J, q⟩ := hp
      show wpAny _ _ (rule _ >>= _) _ _ _
      apply wpAny_bind
      apply wpAny_rule
      apply wpAny_pure
      exact fin true σ H _ (inv_gens J rfl (allBare_setGen J.bare rfl) hk) q
    · intro e s1 he
      exact he.elim
theorem clo_none {cells : List (Str × Addr)} : ∀ {ns : List (Str × NameKind)} {acc : List (Str × Addr)}, (∀ y ∈ ns, y.2 ≠ .free) → cloFrom cells ns acc = acc
  | [], _, _ => rfl
  | (n, k) :: r, acc, h => by
    have hk : k ≠ .free := h (n, k) (by simp)
    unfold cloFrom
    cases k <;> first | exact absurd rfl hk | exact clo_none fun y hy => h y (List.mem_cons_of_mem _ hy)
theorem envs_loop {elt iter : Expr} {x : Str} {px pos : Pos} {scope : Scope} {it acc : Value} {env : Env} {A : Around} {l : List Env} (h : A.frames = some l) : (A.over (.compLoop (.GeneratorExp elt [⟨.Name x px, iter, [], 0⟩] scope pos) 0 it acc env) []).frames = some (env :: l) := by
  show pushEnvs (Code.envs (.compLoop (.GeneratorExp elt [⟨.Name x px, iter, [], 0⟩] scope pos) 0 it acc env)) (pushEnvs [] A.frames) = _
  rw [h]
  rfl
theorem room_loop {k : Nat} {A : Around} {elt iter : Expr} {x : Str} {px pos : Pos} {scope : Scope} {it acc : Value} {env : Env} (r : Room (k + 1) A) : Room k (A.in1.in1.over (.compLoop (.GeneratorExp elt [⟨.Name x px, iter, [], 0⟩] scope pos) 0 it acc env) []) := by
  have h1 : (A.in1.in1.over (.compLoop (.GeneratorExp elt [⟨.Name x px, iter, [], 0⟩] scope pos) 0 it acc env) []).depth = A.in1.in1.depth + 1 := rfl
  have h2 : (A.in1.in1.over (.compLoop (.GeneratorExp elt [⟨.Name x px, iter, [], 0⟩] scope pos) 0 it acc env) []).units = A.in1.in1.units + 3 := rfl
  have h3 : A.in1.in1.depth = A.depth := rfl
  have h4 : A.in1.in1.units = A.units + 1 + 1 := rfl
  have h5 := r.dp
  have h6 := r.un
  exact ⟨r.hd, by rw [h1, h3]; omega, by rw [h2, h4]; omega⟩
section
variable {X : Cx} {pins : List (Addr × Obj)} {σ : L2.St} {H : Hp} {s : Shared}
/-- made, not begun; what its whole walk by all leaves -/
def ReadyA (X : Cx) (pins : List (Addr × Obj)) (σ : L2.St) (te : TE) (xs : List V) (H2 : Hp) (a : Addr) (s5 : Shared) : Prop :=
  ∃ (go : Obj) (g : Nat), GenO go g ∧ s5.heap.get? a = some go ∧ s5.heap.NoLimit ∧ g < s5.gens.size ∧ ∀ Q : Bool → Hp → Prop, rdAll te xs H2 Q → ∃ (Y : Cx) (I t : Addr),
    Y.prog = X.prog ∧ Y.w = X.w ∧ (∃ gs, s5.gens[g]? = some gs ∧ gs.Goes (model Y.prog Y.w) X.A.in1.in1 (gEnd Y Q) (gProt Y a I t go Q) xs.length (.send .none) (s5.setGen g .running)) ∧
    ∀ b σ' H' s', Inv Y [] σ' H' s' → Q b H' → ∃ H'', Inv X pins σ H'' s' ∧ Q b H''
theorem gen_tup {c P : Addr} {elt iter : Expr} {x : Str} {px gpos : Pos} {scope : Scope} {te ti : TE} {k : Nat} {Q' : Value → Shared → Prop} {R : List V → Hp → Prop}
    (hr : Room (k + 1) X.A) (TB : GxR.TabB X.base X.mg c P) (hcode : X.env.code = .ref c) (S : OneN scope x) (hi : PE X iter ti)
    (hel : ∀ (s : Shared) (H : Hp) (C : Addr) (code : Value) (I : Addr), Room k (X.A.in1.in1.over (.compLoop (.GeneratorExp elt [⟨.Name x px, iter, [], 0⟩] scope gpos) 0 (.ref I) .none (genEnv scope [] C code builtinsNs X.env)) []) →
      PE (gxOf X x s H (genEnv scope [] C code builtinsNs X.env) (X.A.in1.in1.over (.compLoop (.GeneratorExp elt [⟨.Name x px, iter, [], 0⟩] scope gpos) 0 (.ref I) .none (genEnv scope [] C code builtinsNs X.env)) []) I) elt te)
    (hs : ∀ v, genFold iter X.env v = pure v) (I0 : Inv X pins σ H s)
    (h : ti σ H fun v H1 => ∃ (t : Addr) (xs : List V), v = .ref t ∧ SqT X.K H1 t xs ∧ GxR.TabG H1 P ∧ ∀ H2, GxR.Tabbed P H1 H2 → R xs H2)
    (hQ : ∀ xs H2 a s5, R xs H2 → ReadyA X pins σ te xs H2 a s5 → Q' (.ref a) s5) :
    wpAny (model X.prog X.w) X.A (eval (.GeneratorExp elt [⟨.Name x px, iter, [], 0⟩] scope gpos) X.env) Q' X.xe s := by
  have hcl : closureFor scope X.env = pure [] := by
    rw [closure_ok fun y hy hf => absurd hf (S.free y hy), clo_none S.free]
  have hroom : X.A.depth < recursionLimit := by
    have := hr.dp
    omega
  apply wpAny_GeneratorExp_make S.co hcl S.cell S.dot S.kind hroom ?_ hs
  apply thn (hi.run pins s σ H _ I0 h)
  rintro xv s1 ⟨v, H1, I1, r1, t, xs, rfl, hT, ⟨tb, hP, ht⟩, q1⟩
  obtain rfl : xv = Value.ref t := r1
  obtain ⟨its, rv, tp, _⟩ := I1.tuple hT
  apply wpAny_pyIter_tuple tp
  generalize ho : ({ cls := .type "tuple_iterator", data := .fields #[.ref t, .int 0 0] } : Obj) = it0
  have old : ∀ b u, s1.heap.get? b = some u → (s1.heap.push it0).get? b = some u := fun b u e => Heap.get?_push_of_some _ e
  have here : (s1.heap.push it0).get? s1.heap.objs.size = some it0 := by
    subst ho
    exact Heap.get?_push_size _ rfl
  have tabS : s1.heap.get? P = some { cls := .none, data := .fields tb } := I1.hok P _ hP
  have Plt : P < s1.heap.objs.size := Heap.lt_size tabS
  have lim2 : (s1.heap.push it0).NoLimit := I1.nolimit.push it0
  refine ⟨lim2, ?_⟩
  refine gcode (s2 := { s1 with heap := s1.heap.push it0 }) hcode (TB.code.keeps fun b u e => old b u (I1.bk b u e)) (old _ _ tabS) ht fun code h3 n3 tb3 hx hsz hP3 hmore ht3 => ?_
  obtain ⟨bm, ob, e1, e2, e3, e4, e5, e6, e7, e8⟩ := TB.bm
  have keep3 : ∀ b u, b ≠ P → s1.heap.get? b = some u → h3.get? b = some u := fun b u hb e => hx b u hb (old b u e)
  have nP : s1.heap.objs.size ≠ P := Nat.ne_of_gt Plt
  have here3 : h3.get? s1.heap.objs.size = some it0 := hx _ _ nP here
  have sz3 : s1.heap.objs.size < h3.objs.size := Heap.lt_size here3
  have cP : cStatics ≠ P := fun e => by
    obtain ⟨_, hns, _⟩ := I1.nolimit
    obtain ⟨o', es, ep, ho', hd', _⟩ := hns
    rw [e, tabS] at ho'
    cases ho'
    cases hd'
  apply wpAny_builtinsFor (m := X.mg) (by rw [I1.ok.glob]; exact ((I1.mod.glob.keeps I1.bk).push it0).extBut hx TB.gP) e1 e2 (keep3 _ _ e4 (I1.bk _ _ e5)) e6 e7 e8
  intro h5 hns hsb
  obtain ⟨more, em⟩ := hmore
  subst em
  have I4 := GxR.inv_tab (more := more) (h' := h3) (g' := s1.gens) (d' := s1.drawn) (t' := n3) I1 hP keep3 hP3 I1.bare
  have H2t : (upd H1 P (.tbl (tb ++ more))) s1.heap.objs.size = none := by
    rw [upd_ne nP]
    exact I1.hok.fresh (Nat.le_refl _)
  have T2 : SqT X.K (upd H1 P (.tbl (tb ++ more))) t xs := by
    have ne : ∀ u, H1 t = some u → (∀ q, u ≠ .tbl q) → t ≠ P := fun u e q z => by
      rw [z, hP] at e
      exact q tb (Option.some.inj e).symm
    rcases hT with (z | ⟨o, z⟩) | z
    · exact .inl (.inl (by rw [upd_ne (ne _ z fun q y => by cases y)]; exact z))
    · exact .inl (.inr ⟨o, by rw [upd_ne (ne _ z fun q y => by cases y)]; exact z⟩)
    · exact .inr z
  generalize hgo : ({ cls := .type "generator", data := .fields #[.int s1.gens.size 0, .str "<genexpr>" (n3 + 1), .str (X.env.qual ++ "<genexpr>") (n3 + 1 + 1)] } : Obj) = go
  have GO : GenO go s1.gens.size := by
    subst hgo
    exact ⟨rfl, ⟨_, _, rfl⟩, rfl⟩
  have k5 : ∀ b u, h3.get? b = some u → h5.get? b = some u := fun b u e => hsb.extBut b u (Nat.ne_of_lt (Heap.lt_size e)) (Heap.get?_push_of_some _ e)
  have k6 : ∀ b u, h3.get? b = some u → (h5.push go).get? b = some u := fun b u e => Heap.get?_push_of_some _ (k5 b u e)
  have sz5 : h5.objs.size = h3.objs.size + 1 := by rw [hsb.1, Heap.size_push]
  have hga : (h5.push go).get? h5.objs.size = some go := by
    subst hgo
    exact Heap.get?_push_size _ rfl
  refine hQ xs (upd H1 P (.tbl (tb ++ more))) _ _ (q1 _ ⟨⟨_, upd_same, ht3⟩, fun b hb => upd_ne hb⟩) ⟨go, s1.gens.size, GO, hga, I4.nolimit.keeps k6, by show _ < (s1.gens.push _).size; rw [Array.size_push]; exact Nat.lt_succ_self _, fun Q hrd => ?_⟩
  have tlt : t < s1.heap.objs.size := by
    obtain ⟨o, e, _⟩ := _root_.id tp
    exact Heap.lt_size e
  have hIt : t ≠ s1.heap.objs.size := Nat.ne_of_lt tlt
  have haI : h5.objs.size ≠ s1.heap.objs.size := by
    rw [sz5]
    omega
  have nst : ∀ b, s1.heap.objs.size ≤ b → b ∉ frs X.stack := fun b hb hm => by
    rcases List.mem_cons.mp (I1.stkSub b hm) with z | z
    · rw [z] at hb
      exact absurd (Nat.lt_of_lt_of_le I1.lt hb) (Nat.lt_irrefl _)
    · exact I1.nofs hb z
  have itd : it0.cls = .type "tuple_iterator" ∧ it0.data = .fields #[.ref t, .int ((0 : Nat) : Int) 0] := by
    subst ho
    exact ⟨rfl, rfl⟩
  have god : ∀ v, go.data ≠ .cell v := fun v q => by
    obtain ⟨nm, qn, d⟩ := GO.data
    rw [d] at q
    cases q
  have KY : (gxOf X x { s1 with heap := h3, gens := s1.gens, drawn := s1.drawn, toks := n3 } (upd H1 P (.tbl (tb ++ more))) (genEnv scope [] h3.objs.size code builtinsNs X.env)
      (X.A.in1.in1.over (.compLoop (.GeneratorExp elt [⟨.Name x px, iter, [], 0⟩] scope gpos) 0 (.ref s1.heap.objs.size) .none (genEnv scope [] h3.objs.size code builtinsNs X.env)) []) s1.heap.objs.size).Ok := by
    refine ⟨I4.ok.mod, S.kind, I4.ok.glob, rfl, Nat.le_refl _, fun y z c e _ => (by cases e), fun y hy => ?_, fun y c _ e => (by cases e), fun _ => hr.hd, envs_loop I4.ok.frames, .inr ⟨rfl, rfl⟩, fun b hb => ?_, fun b o e => I4.bs b o e, Nat.le_trans I4.ok.bsz I4.sz, fun b o e hb => ?_, fun b hb => ?_, I4.stack, I4.stkFree⟩
    · have hy' : scope.names.lookup y = some .cell ∨ scope.names.lookup y = some .free := hy
      rcases hy' with z | z
      · exact absurd rfl (S.cell _ (PySem.mem_of_lookup z))
      · exact absurd rfl (S.free _ (PySem.mem_of_lookup z))
    · rw [List.mem_singleton.mp hb]
      exact ⟨Nat.ne_of_lt sz3, fun y c e => (by cases e)⟩
    · rw [List.mem_singleton.mp hb] at e
      exact absurd (Heap.lt_size (I1.bk _ _ e)) (Nat.lt_irrefl _)
    · rw [List.mem_singleton.mp hb]
      exact nst _ (Nat.le_refl _)
  refine ⟨gxOf X x { s1 with heap := h3, gens := s1.gens, drawn := s1.drawn, toks := n3 } (upd H1 P (.tbl (tb ++ more))) (genEnv scope [] h3.objs.size code builtinsNs X.env)
      (X.A.in1.in1.over (.compLoop (.GeneratorExp elt [⟨.Name x px, iter, [], 0⟩] scope gpos) 0 (.ref s1.heap.objs.size) .none (genEnv scope [] h3.objs.size code builtinsNs X.env)) []) s1.heap.objs.size, s1.heap.objs.size, t, rfl, rfl,
    ⟨_, Array.getElem?_push_size .., rfl, seg_allStart (Aw := X.A.in1.in1) hr.hd rfl rfl S rfl rfl (by show _ ∈ [_]; simp) haI hIt rfl rfl (hel _ _ _ _ _ (room_loop hr)) T2 god ⟨[none, none], it0, rfl, rfl, itd.1, itd.2, ?_⟩ hrd⟩, fun b σ' H' s' J q => ⟨H', I4.call' (ch := [s1.heap.objs.size]) J.os J.base J.hok J.bare fun b hb => ?_, q⟩⟩
  · refine ⟨KY, rfl, allBare_setGen (AllBare.push I1.bare rfl) rfl, Un.kept k6, ⟨_, hns.push _, fun i y v _ h2 _ => ?_⟩, fun y c e => (by cases e), I4.hok.fresh (Nat.le_refl _), fun y c e => (by cases e), fun p hp => ?_, I4.hok.kept k6, rfl⟩
    · match i, h2 with
      | 0, h2 => cases h2
      | 1, h2 => cases h2
      | n + 2, h2 => cases h2
    · rcases List.mem_cons.mp (show p ∈ [(h5.objs.size, go), (s1.heap.objs.size, it0)] from hp) with rfl | hp
      · exact ⟨hga, I4.hok.fresh (show h3.objs.size ≤ h5.objs.size by omega), (by show h5.objs.size ≠ h3.objs.size; omega), nst _ (show s1.heap.objs.size ≤ h5.objs.size by omega), god⟩
      · rw [List.mem_singleton] at hp
        subst hp
        exact ⟨k6 _ _ here3, H2t, Nat.ne_of_lt sz3, nst _ (Nat.le_refl _), fun v q => by rw [itd.2] at q; cases q⟩
  · rw [List.mem_singleton.mp hb]
    refine ⟨.inr I1.sz, Nat.ne_of_gt I1.lt, fun y c e z => ?_, fun p hp z => ?_⟩
    · obtain ⟨v, o, e2, _⟩ := I1.cell y c e
      have := Heap.lt_size e2
      rw [z] at this
      exact Nat.lt_irrefl _ this
    · have := Heap.lt_size (I1.pin p hp).1
      rw [z] at this
      exact Nat.lt_irrefl _ this
end
section
variable {X : Cx}
/-- all(e for x in t), t a tuple: the def's table may have grown when the first is asked -/
def tAllT (K : PySem.W.Frag) (P : Addr) (te ti : TE) : TE := fun σ H Q => ti σ H fun v H1 =>
  ∃ (t : Addr) (xs : List V), v = .ref t ∧ SqT K H1 t xs ∧ GxR.TabG H1 P ∧ ∀ H2, GxR.Tabbed P H1 H2 → rdAll te xs H2 fun b H' => Q (.bl b) H'
theorem pe_allT {c P : Addr} {elt iter : Expr} {x : Str} {px p pos gpos : Pos} {scope : Scope} {te ti : TE} {k : Nat}
    (hr : Room (k + 1) X.A) (hg : Gl X "all") (hm : X.mg "all" = none) (TB : GxR.TabB X.base X.mg c P) (hcode : X.env.code = .ref c) (S : OneN scope x) (hi : PE X iter ti)
    (hel : ∀ (s : Shared) (H : Hp) (C : Addr) (code : Value) (I : Addr), Room k (X.A.in1.in1.over (.compLoop (.GeneratorExp elt [⟨.Name x px, iter, [], 0⟩] scope gpos) 0 (.ref I) .none (genEnv scope [] C code builtinsNs X.env)) []) →
      PE (gxOf X x s H (genEnv scope [] C code builtinsNs X.env) (X.A.in1.in1.over (.compLoop (.GeneratorExp elt [⟨.Name x px, iter, [], 0⟩] scope gpos) 0 (.ref I) .none (genEnv scope [] C code builtinsNs X.env)) []) I) elt te)
    (hs : ∀ v, genFold iter X.env v = pure v) (hb : bootBuiltins "all" = some (.builtin "all") := by decide +kernel)
    (he : starEach [.GeneratorExp elt [⟨.Name x px, iter, [], 0⟩] scope gpos] X.env = (false, eval (.GeneratorExp elt [⟨.Name x px, iter, [], 0⟩] scope gpos) X.env) :: starEach [] X.env := by rfl) :
    PE X (.Call (.Name "all" p) [.GeneratorExp elt [⟨.Name x px, iter, [], 0⟩] scope gpos] [] pos) (tAllT X.K P te ti) := by
  constructor
  intro pins s σ H Q I want
  have hroom : X.A.depth < recursionLimit := by
    have := hr.dp
    omega
  apply wpAny_Call_Name_kw (ld_blt I hg hm hb ?_)
  apply PyProof.Rows.callWith_builtin1 ?_ he (by rfl)
  rw [he]
  show wpAny _ _ (spliced ((false, eval (.GeneratorExp elt [⟨.Name x px, iter, [], 0⟩] scope gpos) X.env) :: backTo pos (starEach [] X.env))) _ _ s
  apply Calls.spliced_cons (gen_tup (R := fun xs H2 => rdAll te xs H2 fun b H' => Q (.bl b) H') hr TB hcode S hi hel hs I want ?_)
  intro xs H2 a s5 k5 ready
  obtain ⟨go, g, GO, ha, lim, _, fin⟩ := ready
  obtain ⟨Y, I', t, eP, eW, hgo, back⟩ := fin _ k5
  apply Calls.spliced_nil
  apply call_function_tree F.kind_all F.plain_all F.entry_all (F.args_all1 _)
  unfold Builtin.«all»
  refine wpAny_bind (m := oneArg "all" _) (wpAny_pure ?_)
  refine wpAny_bind (wpAny_pyIter_gen (GO.at ha) ?_)
  refine wpAny_pure ⟨plainId_quiet F.plain_all_loop _, ?_⟩
  have key := all_loop (Y := Y) (A := X.A) (R := fun r s' => match r with | .ok (.ret v) => EP X pins σ Q v s' | .ok _ => False | .error e => X.xe e s') hr.hd hroom GO (fun b σ' H' s' J q => by
    obtain ⟨H'', J2, q2⟩ := back b σ' H' s' J q
    exact ⟨.bl b, H'', J2, rfl, q2⟩) xs.length s5 ha lim hgo
  rw [eP, eW] at key
  exact key
end
/-- for x in (a if c else b) -/
def iIf (tc : TT) (wa wb : TI) : TI := fun σ H R => tc σ H fun b H1 => if b = true then wa σ H1 R else wb σ H1 R
theorem pi_if {X : Cx} {tg c a b : Expr} {pos : Pos} {tc : TT} {wa wb : TI} (hc : PT X c tc) (ha : PI X tg a wa) (hb : PI X tg b wb) : PI X tg (.IfExp c a b pos) (iIf tc wa wb) := by
  constructor
  intro pins s σ H R I h
  apply wpAny_IfExp
  apply thn (hc.run pins s σ H _ I h)
  rintro d s1 ⟨H1, I1, q1⟩
  cases d with
  | true => exact ha.run pins s1 σ H1 R I1 q1
  | false => exact hb.run pins s1 σ H1 R I1 q1
end Jf
set_option Elab.async false
set_option linter.all false
set_option maxRecDepth 100000
set_option maxHeartbeats 4000000
/-! ### enumerate(t) of a tuple -/
namespace PySem
open AutoSeq1 (wpAny_loadPart')
section
variable {prog : Program} {w : World} {A : Around} {E : Value → Shared → Prop} {s : Shared} {e it t : Addr} {i : Nat} {items : Array Value} {x old : Value}
/-- the iterator within hands on an item -/
theorem jf_next {Q : Value → Shared → Prop} (a : s.heap.IsTupleIter it t i) (b : s.heap.IsTuple t items) (hx : items[i]? = some x) (k : ∀ h', h'.IsTupleIter it t (i + 1) → Heap.SameBut it s.heap h' → Q x { s with heap := h' }) :
    wpAny (model prog w) A (Builtin.SmallTypes.nextOf (.ref it)) Q E s := by
  obtain ⟨u, e1, e2, e3⟩ := id a
  obtain ⟨v, f1, _, n, f2⟩ := id b
  have S := F.slot_tuple_iterator_next
  have no : ¬ ((Value.ref t == Value.none) = true) := Bool.false_ne_true
  unfold Builtin.SmallTypes.nextOf
  refine wpAny_bind (wpAny_callSpecial?_slot (name := Str.ofString "__next__") a.typeIs S (wpAny_call_entry S a.typeIs F.entry_tuple_iterator_next ?_ (F.args_tuple_iterator_next_1 _)))
  refine wpAny_bind (m := field (.ref it) 0) (wpAny_field e1 e3 (x := .ref t) rfl ?_)
  dsimp only
  rw [if_neg no]
  refine wpAny_bind (m := field (.ref it) 1) (wpAny_field e1 e3 (x := .int i 0) rfl (wpAny_bind (m := seqItems? (.ref t)) (wpAny_seqItems f1 f2 ?_)))
  simp only [Int.toNat_natCast, hx]
  refine wpAny_bind (wpAny_setField e1 e3 (by simp) (wpAny_pure ⟨x, rfl, wpAny_pure (k _ ⟨_, Heap.get?_update_self _ e1 (Obj.isFreed_of_fields (Obj.data_mapFields e3 _)), (Obj.cls_mapFields ..).trans e2, ?_⟩ (Heap.SameBut.update ..))⟩))
  rw [Obj.data_mapFields e3]
  simp [rawInt]
/-- .. or has none -/
theorem jf_none {Q : Value → Shared → Prop} (hh : A.handled = none) (a : s.heap.IsTupleIter it t i) (b : s.heap.IsTuple t items) (hx : items[i]? = none)
    (k : ∀ h' y, Heap.ExtBut it s.heap h' → (∃ o, h'.get? y = some o ∧ o.cls = .type "StopIteration") → E (.ref y) { s with heap := h' }) : wpAny (model prog w) A (Builtin.SmallTypes.nextOf (.ref it)) Q E s := by
  obtain ⟨u, e1, e2, e3⟩ := id a
  obtain ⟨v, f1, _, n, f2⟩ := id b
  have S := F.slot_tuple_iterator_next
  have no : ¬ ((Value.ref t == Value.none) = true) := Bool.false_ne_true
  unfold Builtin.SmallTypes.nextOf
  refine wpAny_bind (wpAny_callSpecial?_slot (name := Str.ofString "__next__") a.typeIs S (wpAny_call_entry S a.typeIs F.entry_tuple_iterator_next ?_ (F.args_tuple_iterator_next_1 _)))
  refine wpAny_bind (m := field (.ref it) 0) (wpAny_field e1 e3 (x := .ref t) rfl ?_)
  dsimp only
  rw [if_neg no]
  refine wpAny_bind (m := field (.ref it) 1) (wpAny_field e1 e3 (x := .int i 0) rfl (wpAny_bind (m := seqItems? (.ref t)) (wpAny_seqItems f1 f2 ?_)))
  simp only [Int.toNat_natCast, hx]
  refine wpAny_bind (wpAny_rule (wpAny_bind (wpAny_setField e1 e3 (by simp) (wpAny_bind (m := newExc (.type "StopIteration") []) ?_))))
  simp only [newExc, newTuple]
  refine wpAny_bind (wpAny_newObj_type (wpAny_bind (m := firstArgMember _ _) (wpAny_of_eq (a := Value.none) (by first | rfl | (simp only [firstArgMember]; rfl)) (wpAny_newObj_type ?_ (by size_fits)))) (by size_fits))
  simp only [raiseNew]
  refine wpAny_bind (wpAny_handled ?_)
  first | rw [show A.in1.handled = none from hh] | rw [hh]
  exact wpAny_bind (wpAny_pure (wpAny_throw (k _ _ (((Heap.SameBut.update ..).extBut.push _).push _) ⟨_, Heap.get?_push_size _ rfl, rfl⟩)))
/-- enumerate's turn, whatever stands within: what it needs of the turn within is told by hn -/
theorem jf_enum {P : Heap → Prop} {Q : Value → Shared → Prop} (he : IsEnum s.heap e it i old) (hne : e ≠ it)
    (hn : ∀ {B : Around} {R : Value → Shared → Prop} {Ex : Value → Shared → Prop}, (∀ h', P h' → Heap.SameBut it s.heap h' → R x { s with heap := h' }) → wpAny (model prog w) B (Builtin.SmallTypes.nextOf (.ref it)) R Ex s)
    (hP : ∀ h h', P h → (∀ b o, b ≠ e → h.get? b = some o → h'.get? b = some o) → P h')
    (k : ∀ h', IsEnumOut h' e it ((i : Int) + 1) x s.heap.objs.size → P h' → h'.get? s.heap.objs.size = some { cls := .type "tuple", data := .seq #[.int i s.toks, x] } → h'.objs.size = s.heap.objs.size + 1 →
      (∀ b o, b ≠ e → b ≠ it → s.heap.get? b = some o → h'.get? b = some o) → Q (.ref s.heap.objs.size) { s with heap := h', toks := s.toks + 1 }) :
    wpAny (model prog w) A (Builtin.«enumerate.__next__» ⟨[.ref e], []⟩) (fun f s' => ∃ v, f = .done (.ret v) ∧ Q v s') E s := by
  obtain ⟨hp, g, d, tk, os⟩ := s
  have lt : e < hp.objs.size := Heap.lt_size he
  refine wpAny_bind (m := field (.ref e) 2) (wpAny_field he rfl (x := .ref it) rfl (wpAny_bind (hn fun g1 p1 (b1 : Heap.SameBut it hp g1) => ?_)))
  have q1 : IsEnum g1 e it i old := (b1.2 e hne).trans he
  refine wpAny_bind (m := field (.ref e) 3) (wpAny_field q1 rfl (x := rawInt i) rfl (wpAny_bind (m := field (.ref e) 4) (wpAny_field q1 rfl (x := .none) rfl (wpAny_bind (m := mkInt i) (wpAny_mkInt ?_)))))
  refine wpAny_bind (m := setField (.ref e) 3 (rawInt ((i : Int) + 1))) (wpAny_setField_rec q1 (by simp) fun g2 (q2 : IsEnum g2 e it ((i : Int) + 1) old) (b2 : Heap.SameBut e g1 g2) => ?_)
  refine wpAny_bind (m := setField (.ref e) 4 .none) (wpAny_setField_rec q2 (by simp) fun g3 (q3 : IsEnum g3 e it ((i : Int) + 1) old) (b3 : Heap.SameBut e g2 g3) => ?_)
  refine wpAny_bind (m := newTuple [.int i tk, x]) (wpAny_newTuple ?_)
  have z3 : g3.objs.size = hp.objs.size := by rw [b3.1, b2.1, b1.1]
  have b13 : ∀ b o, b ≠ e → g1.get? b = some o → g3.get? b = some o := fun b o n y => b3.extBut b o n (b2.extBut b o n y)
  generalize hg : g3.push { cls := .type "tuple", data := .seq #[.int i tk, x] } = g4
  have old4 : ∀ b o, g3.get? b = some o → g4.get? b = some o := fun b o y => hg ▸ Heap.get?_push_of_some _ y
  have tup4 : g4.get? hp.objs.size = some { cls := .type "tuple", data := .seq #[.int i tk, x] } := by
    rw [← hg, ← z3]
    exact Heap.get?_push_size _ rfl
  have z4 : g4.objs.size = hp.objs.size + 1 := by rw [← hg, Heap.size_push, z3]
  have q4 : IsEnum g4 e it ((i : Int) + 1) old := old4 _ _ q3
  rw [z3]
  refine wpAny_bind (m := Builtin.SmallTypes.ownedTupleIsFree (.ref e)) ?_
  unfold Builtin.SmallTypes.ownedTupleIsFree
  refine wpAny_bind (wpAny_field q4 rfl (x := .none) rfl (wpAny_pure ?_))
  simp only [if_true]
  refine wpAny_bind (wpAny_rule (wpAny_bind (wpAny_field q4 rfl (x := old) rfl (wpAny_bind (wpAny_setField_rec q4 (by simp) fun g5 (q5 : IsEnum g5 e it ((i : Int) + 1) x) (b5 : Heap.SameBut e g4 g5) => ?_)))))
  refine wpAny_bind (m := Builtin.SmallTypes.ownedTupleHandOut (.ref e) (.ref hp.objs.size)) ?_
  unfold Builtin.SmallTypes.ownedTupleHandOut
  refine wpAny_bind (wpAny_setField_rec q5 (by simp) fun g6 (q6 : IsEnumOut g6 e it ((i : Int) + 1) x hp.objs.size) (b6 : Heap.SameBut e g5 g6) => ?_)
  refine wpAny_setField_rec q6 (by simp) fun g7 (q7 : IsEnumOut g7 e it ((i : Int) + 1) x hp.objs.size) (b7 : Heap.SameBut e g6 g7) => ?_
  have b47 : ∀ b o, b ≠ e → g4.get? b = some o → g7.get? b = some o := fun b o n y => b7.extBut b o n (b6.extBut b o n (b5.extBut b o n y))
  refine wpAny_bind (wpAny_letGo (wpAny_pure ⟨_, rfl, k g7 q7 (hP g1 g7 p1 fun b o n y => b47 b o n (old4 b o (b13 b o n y))) (b47 _ _ (Nat.ne_of_gt lt) tup4) ?_ fun b o n m y => b47 b o n (old4 b o (b13 b o n (b1.extBut b o m y)))⟩))
  rw [b7.1, b6.1, b5.1, z4]
theorem jf_enumT {Q : Option Value → Shared → Prop} (he : IsEnum s.heap e it i old) (a : s.heap.IsTupleIter it t i) (b : s.heap.IsTuple t items) (hx : items[i]? = some x) (hne : e ≠ it)
    (k : ∀ h', IsEnumOut h' e it ((i : Int) + 1) x s.heap.objs.size → h'.IsTupleIter it t (i + 1) → h'.get? s.heap.objs.size = some { cls := .type "tuple", data := .seq #[.int i s.toks, x] } → h'.objs.size = s.heap.objs.size + 1 →
      (∀ b o, b ≠ e → b ≠ it → s.heap.get? b = some o → h'.get? b = some o) → Q (some (.ref s.heap.objs.size)) { s with heap := h', toks := s.toks + 1 }) : wpAny (model prog w) A (pyNext (.ref e)) Q E s := by
  have T : s.TypeIs (.ref e) "enumerate" := ⟨_, he, rfl⟩
  unfold pyNext
  refine wpAny_bind (wpAny_attempt (wpAny_callSpecial?_slot (name := Str.ofString "__next__") T F.slot_enumerate_next (wpAny_call_entry F.slot_enumerate_next T F.entry_enumerate_next
    (jf_enum (P := fun h => h.IsTupleIter it t (i + 1)) he hne (fun q => jf_next a b hx q) (fun h h' p y => ?_) fun h' c1 c2 c3 c4 c5 => wpAny_pure (k h' c1 c2 c3 c4 c5)) (F.args_enumerate_next_1 _))))
  obtain ⟨o, h1, h2⟩ := p
  exact ⟨o, y it o hne.symm h1, h2⟩
theorem jf_enumE {Q : Option Value → Shared → Prop} (hh : A.handled = none) (he : IsEnum s.heap e it i old) (a : s.heap.IsTupleIter it t i) (b : s.heap.IsTuple t items) (hx : items[i]? = none) (k : ∀ h', Heap.ExtBut it s.heap h' → Q none { s with heap := h' }) :
    wpAny (model prog w) A (pyNext (.ref e)) Q E s := by
  have T : s.TypeIs (.ref e) "enumerate" := ⟨_, he, rfl⟩
  unfold pyNext
  refine wpAny_bind (wpAny_attempt (wpAny_callSpecial?_slot (name := Str.ofString "__next__") T F.slot_enumerate_next (wpAny_call_entry F.slot_enumerate_next T F.entry_enumerate_next
    (wpAny_bind (m := field (.ref e) 2) (wpAny_field he rfl (x := .ref it) rfl (wpAny_bind (jf_none hh a b hx fun h' y g ⟨o, g1, g2⟩ => ?_)))) (F.args_enumerate_next_1 _))))
  exact wpAny_bind (wpAny_isInstance (T := "StopIteration") (b := true) ⟨o, g1, g2⟩ isSubtype_stop (wpAny_pure (k _ g)))
end
/-- enumerate(t) -/
theorem jf_newT (t : Addr) (o : Obj) (items : Array Value) (n : Nat) (hc : o.cls = .type "tuple") (hd : o.data = .seq items n) :
    Meets (Builtin.«enumerate.__new__» ⟨[.type "enumerate", .ref t], []⟩) (fun _ R s => s.heap.get? t = some o ∧
      R (.ok (.ret (.ref (s.heap.push { cls := .type "tuple_iterator", data := .fields #[.ref t, .int 0 0] }).objs.size)))
        { s with heap := (s.heap.push { cls := .type "tuple_iterator", data := .fields #[.ref t, .int 0 0] }).push { cls := .type "enumerate", data := .fields #[.none, .bool false, .ref s.heap.objs.size, rawInt 0, .none, .none] } }) :=
  .of_wp fun prog w A R s h => by
    obtain ⟨hp, g, dr, tk, os⟩ := s
    obtain ⟨ht, h⟩ := h
    have sub := sub_enumerate
    have hT : Heap.IsTuple (Shared.heap ⟨hp, g, dr, tk, os⟩) t items := ⟨_, ht, hc, n, hd⟩
    wp_walk using wpAny_loadPart' ht
    refine wpAny_stack_any fun st => wpAny_pure ?_
    split
    · rename_i c _ _ _ _ _
      cases (c == Value.type "enumerate") <;>
      · wp_walk using wpAny_loadPart' ht, wpAny_pyIter_tuple hT
        exact ⟨_, rfl, h⟩
    · wp_walk using wpAny_loadPart' ht, wpAny_pyIter_tuple hT
      exact ⟨_, rfl, h⟩
theorem jf_callT {prog : Program} {w : World} {A : Around} {E : Value → Shared → Prop} {s : Shared} {t : Addr} {items : Array Value} {Q : Value → Shared → Prop} (hT : s.heap.IsTuple t items)
    (h : ∀ h', IsEnum h' (s.heap.objs.size + 1) s.heap.objs.size 0 .none → h'.IsTupleIter s.heap.objs.size t 0 → h'.objs.size = s.heap.objs.size + 2 → (∀ b o, s.heap.get? b = some o → h'.get? b = some o) → Q (.ref (s.heap.objs.size + 1)) { s with heap := h' }) :
    wpAny (model prog w) A (call (.type "enumerate") [.ref t]) Q E s := by
  obtain ⟨o, ho, hc, n, hd⟩ := hT
  refine callType_new F.called_enumerate (by decide) (F.typeCall_enumerate_1 _) (F.newCall_enumerate_1 _) (fun obj => F.args_object_init_2 obj _) F.entry_enumerate_new (jf_newT t o items n hc hd) ⟨ho, ?_⟩
  have z : (s.heap.push { cls := .type "tuple_iterator", data := .fields #[.ref t, .int 0 0] }).objs.size = s.heap.objs.size + 1 := Heap.size_push ..
  show _ ∧ _
  rw [z]
  have he := Heap.get?_push_size (s.heap.push { cls := .type "tuple_iterator", data := .fields #[.ref t, .int 0 0] }) (o := { cls := .type "enumerate", data := .fields #[.none, .bool false, .ref s.heap.objs.size, rawInt 0, .none, .none] }) rfl
  rw [z] at he
  exact ⟨⟨_, he, rfl⟩, h _ he ⟨_, Heap.get?_push_of_some _ (Heap.get?_push_size _ rfl), rfl, rfl⟩ (by rw [Heap.size_push, z]) fun b o y => Heap.get?_push_of_some _ (Heap.get?_push_of_some _ y)⟩
end PySem
namespace Jf
open PySem PySem.Spec PyProof.Rows L2 Evl
/-- the tuple at a, each item in a new pair with its number -/
def IteT (K : PySem.W.Frag) (a : Addr) : It :=
  ⟨fun i H => ∃ (xs : List V) (x : V), SqT K H a xs ∧ xs[i]? = some x, fun i H v H' => ∃ T x, v = .ref T ∧ H T = none ∧ H' = upd H T (.tup [.int (i : Nat), x]) ∧ ∀ xs, SqT K H a xs → xs[i]? = some x, fun i H => ∃ xs : List V, SqT K H a xs ∧ xs.length ≤ i⟩
theorem turn_enumT {P : Program} {w : World} {K : PySem.W.Frag} {elts : List Expr} {kk : Nat} {tpos : Pos} (a e it : Addr) :
    Turn P w K (.Tuple elts kk tpos) (IteT K a) [e, it] e (fun i h => (∃ old, IsEnum h e it ((i : Nat) : Int) old) ∧ h.IsTupleIter it a i ∧ e ≠ it) where
  mem := by simp
  obj := fun i h st b hb => by
    obtain ⟨⟨old, he⟩, ⟨o, ho, _, hd⟩, _⟩ := st
    rcases List.mem_cons.mp hb with rfl | hb
    · exact ⟨_, he, fun v q => nomatch q⟩
    · rw [List.mem_singleton.mp hb]
      exact ⟨o, ho, fun v q => by rw [hd] at q; cases q⟩
  keep := fun i h h' st k => by
    obtain ⟨⟨old, he⟩, ⟨o, ho, hr⟩, ne⟩ := st
    exact ⟨⟨old, k e (by simp) _ he⟩, ⟨o, k it (by simp) o ho, hr⟩, ne⟩
  item := by
    intro X hP hw hK hc i pins s σ H E I hf st hg
    subst hP hw hK
    obtain ⟨⟨old, he⟩, hit, ne⟩ := st
    obtain ⟨xs, x, hq, hx⟩ := hg
    obtain ⟨its, rv, tp, _⟩ := I.tuple hq
    obtain ⟨u, hu, ru⟩ := rv.get hx
    have le : e < s.heap.objs.size := Heap.lt_size he
    have li : it < s.heap.objs.size := by
      obtain ⟨_, q, _⟩ := hit
      exact Heap.lt_size q
    refine jf_enumT he hit tp (x := u) (by simpa using hu) ne fun h1 c1 c2 c3 c4 c5 => ⟨_, rfl, wpAny_letOwnedTupleGo_enum (s := { s with heap := h1, toks := s.toks + 1 }) c1 fun h2 d1 d2 => ?_⟩
    have at2 : h2.get? s.heap.objs.size = some { cls := .type "tuple", data := .seq #[.int i s.toks, u] } := (d2.2 _ (Nat.ne_of_gt le)).trans c3
    have I2 : Inv X pins σ (upd H s.heap.objs.size (.tup [.int (i : Nat), x])) { s with heap := h2, toks := s.toks + 1 } := by
      refine I.turnedNew (ch := [e, it]) (fun b o hb q => ?_) hf (Nat.le_refl _) ⟨by show 2 ≤ sizeLine; decide, [.int i s.toks, u], .cons ⟨_, rfl⟩ (.cons ru .nil), ⟨_, at2, rfl, _, rfl⟩⟩
      simp only [List.mem_cons, List.not_mem_nil, or_false, not_or] at hb
      exact (d2.2 b hb.1).trans (c5 b o hb.1 hb.2 q)
    refine ⟨.ref s.heap.objs.size, _, I2, rfl, ⟨_, x, rfl, I.hok.fresh (Nat.le_refl _), rfl, fun ys hy => by rw [I.tuple_inj hy hq]; exact hx⟩, ⟨⟨u, ?_⟩, ?_, ne⟩, fun b hb => ?_⟩
    · rw [show ((i + 1 : Nat) : Int) = (i : Int) + 1 by omega]
      exact d1
    · obtain ⟨o, g1, g2⟩ := c2
      exact ⟨o, (d2.2 it ne.symm).trans g1, g2⟩
    · have lb : b < s.heap.objs.size := by
        rcases List.mem_cons.mp hb with rfl | hb
        · exact le
        · rw [List.mem_singleton.mp hb]
          exact li
      rw [upd_ne (Nat.ne_of_lt lb)]
      exact (hf b hb).1
  done := by
    intro X hP hw hK hc i pins s σ H E I hf st hg
    subst hP hw hK
    obtain ⟨⟨old, he⟩, hit, _⟩ := st
    obtain ⟨xs, hq, hx⟩ := hg
    obtain ⟨its, rv, tp, _⟩ := I.tuple hq
    obtain ⟨f0, f1, f2, f3, f4, f5⟩ := hf it (by simp)
    have := rv.length
    exact jf_enumE (I.ok.hd hc) he hit tp (by simp; omega) fun h' g => ⟨rfl, I.turned (t' := s.toks) (fun b o hb q => g b o hb q) f0 f1 f3 f4 f5⟩
  self := fun A i s Q E st h => by
    obtain ⟨⟨_, he⟩, _⟩ := st
    exact wpAny_pyIter_enum he h
def iEnumT (K : PySem.W.Frag) (ta : TA) : TI := fun σ H R => ta σ H fun vs H1 => ∃ a xs, vs = [.ref a] ∧ SqT K H1 a xs ∧ R (IteT K a) H1
theorem pi_enumT {X : Cx} {e : Expr} {ta : TA} {p pos tpos : Pos} {elts : List Expr} {kk : Nat} (hg : Gl X "enumerate") (hm : X.mg "enumerate" = none) (ha : PA X [e] ta) (hs : starEach [e] X.env = [(false, eval e X.env)] := by rfl) :
    PI X (.Tuple elts kk tpos) (.Call (.Name "enumerate" p) [e] [] pos) (iEnumT X.K ta) := by
  refine ⟨fun pins s σ H R I h => ?_⟩
  refine Call_ (ld_blt I hg hm boot_enumerate (PyProof.Rows.callWith_type1 (thn (ha.run pos pins s σ H _ I h) fun us s1 ⟨vs, H1, I1, r1, a, xs, ex, hq, q⟩ => ?_) hs rfl))
  subst ex
  obtain ⟨u, rfl, ru⟩ := vals1 r1
  cases ru
  obtain ⟨its, _, tp, _⟩ := I1.tuple hq
  refine jf_callT tp fun h' c1 c2 c3 c4 => wpAny_pyIter_enum c1 ⟨s1.heap.objs.size + 1, [s1.heap.objs.size + 1, s1.heap.objs.size], _, _, H1, rfl, I1.kept (t' := s1.toks) c4, turn_enumT a (s1.heap.objs.size + 1) s1.heap.objs.size, ⟨⟨.none, c1⟩, c2, Nat.succ_ne_self _⟩, fun b hb => ?_, q⟩
  have hle : s1.heap.objs.size ≤ b := by
    rcases List.mem_cons.mp hb with rfl | hb
    · exact Nat.le_succ _
    · rw [List.mem_singleton.mp hb]
      exact Nat.le_refl _
  exact I1.fpOk hle (I1.hok.fresh hle)
end Jf
set_option Elab.async false
set_option linter.all false
set_option maxRecDepth 100000
set_option maxHeartbeats 4000000
namespace Jf
open PySem PySem.Spec PyProof.Rows L2 Evl GxR GenW
/-! ### all(e for .. in an iterable of any kind that the layer walks), e of any kind that it reads -/
/-- the inner scope: its names, nothing captured -/
structure ManyN (scope : Scope) (xs : List Str) : Prop where
  kind : scope.kind = .function
  co : scope.isCoroutine = false
  cell : ∀ y ∈ scope.names, y.2 ≠ .cell
  dot : scope.names.lookup (".0" : Str) = some NameKind.local
  free : ∀ y ∈ scope.names, y.2 ≠ .free
/-- the inner context: the callers' frames behind it, the walked objects free to turn -/
def gyOf (X : Cx) (xs : List Str) (s : Shared) (H : Hp) (cenv : Env) (B : Around) (fp : List Addr) : Cx where
  prog := X.prog
  w := X.w
  K := X.K
  mg := X.mg
  base := X.base
  A := B
  N := ".0" :: xs
  s_0 := s
  H_0 := H
  env := cenv
  outer := X.stack
  stack := cenv :: X.stack
  ex := fp
  fn := fun _ => true
  calm := true
  pn := []
  xe := fun _ _ => False
/-- the reading: from the left, till one says no -/
def rdAllI (g : TG) (te : TE) (J : It) (L : Nat) : Nat → Nat → Hp → (Bool → Hp → Prop) → Prop
  | 0, i, H, Q => J.stop i H ∧ Q true H
  | n + 1, i, H, Q => J.go i H ∧ ∀ x H1, J.yld i H x H1 → ∀ σ : L2.St, σ.length = L → σ[0]? = some none → g x σ H1 fun σ2 H2 => σ2.length = L ∧ σ2[0]? = some none ∧ te σ2 H2 fun r H3 => ∃ b, r = .bl b ∧ (b = true → rdAllI g te J L n (i + 1) H3 Q) ∧ (b = false → Q false H3)
/-- where the generator stands -/
def GInv2 (Y : Cx) (a : Addr) (go : Obj) (fp : List Addr) (tn : Nat → Heap → Prop) (L i : Nat) (H : Hp) (s : Shared) : Prop :=
  ∃ (σ : L2.St) (ps : List (Addr × Obj)), σ.length = L ∧ σ[0]? = some none ∧ ps.map (·.1) = fp ∧ tn i s.heap ∧ Inv Y ((a, go) :: ps) σ H s
def gProt2 (Y : Cx) (a : Addr) (go : Obj) (fp : List Addr) (tn : Nat → Heap → Prop) (L : Nat) (Q : Bool → Hp → Prop) : Protocol := fun _ _ v s kap =>
  ∃ b i H, v = .bool b ∧ GInv2 Y a go fp tn L i H s ∧ (b = false → Q false H) ∧ (b = true → ∀ s', s'.os = s.os → AllBare s'.gens → s'.heap = s.heap → kap (.send .none) s')
section
variable {Y : Cx} {a it : Addr} {go : Obj} {fp : List Addr} {tn : Nat → Heap → Prop} {L i : Nat} {H : Hp} {s s' : Shared}
theorem GInv2.woke (h : GInv2 Y a go fp tn L i H s) (o : s'.os = s.os) (g : AllBare s'.gens) (e : s'.heap = s.heap) : GInv2 Y a go fp tn L i H s' := by
  obtain ⟨σ, ps, l, z, c, d, J⟩ := h
  refine ⟨σ, ps, l, z, c, by rw [e]; exact d, J.call' (ch := []) o ?_ ?_ g fun b z => by simp at z⟩
  · rw [e]
    exact Un.kept fun _ _ q => q
  · rw [e]
    exact J.hok
theorem objs_of {h : Heap} : ∀ {fp : List Addr}, (∀ b ∈ fp, ∃ o, h.get? b = some o ∧ ∀ v, o.data ≠ .cell v) → ∃ ps : List (Addr × Obj), ps.map (·.1) = fp ∧ ∀ p ∈ ps, h.get? p.1 = some p.2 ∧ ∀ v, p.2.data ≠ .cell v
  | [], _ => ⟨[], rfl, fun _ z => nomatch z⟩
  | b :: fp, q => by
    obtain ⟨o, h1, h2⟩ := q b List.mem_cons_self
    obtain ⟨ps, h3, h4⟩ := objs_of fun c hc => q c (List.mem_cons_of_mem _ hc)
    refine ⟨(b, o) :: ps, by rw [List.map_cons, h3], fun p hp => ?_⟩
    rcases List.mem_cons.mp hp with rfl | hp
    · exact ⟨h1, h2⟩
    · exact h4 p hp
end
section
variable {Y : Cx} {Aw : Around} {elt iter tg : Expr} {pos : Pos} {scope : Scope} {a it : Addr} {go : Obj} {fp : List Addr} {tn : Nat → Heap → Prop} {J : It} {L : Nat} {te : TE} {g : TG} {Q : Bool → Hp → Prop}
theorem seg_itLoop (hA : Aw.handled = none) (hY : Y.A = Aw.over (.compLoop (.GeneratorExp elt [⟨tg, iter, [], 0⟩] scope pos) 0 (.ref it) .none Y.env) []) (hco : Y.env.scope.isCoroutine = false) (hcl : Y.env.cells = []) (hex : ∀ b ∈ fp, b ∈ Y.ex) (ha : a ∉ fp) (hpn : Y.pn = [])
    (hcalm : Y.calm = true) (hxe : Y.xe = fun _ _ => False) (T : Turn Y.prog Y.w Y.K tg J fp it tn) (hg : PG Y tg g) (hel : PE Y elt te) :
    ∀ (n i : Nat) (H : Hp) (s₀ s : Shared), GInv2 Y a go fp tn L i H s → rdAllI g te J L n i H Q →
      Seg (model Y.prog Y.w) Aw (gEnd Y Q) (gProt2 Y a go fp tn L Q) n s₀ (.compLoop (.GeneratorExp elt [⟨tg, iter, [], 0⟩] scope pos) 0 (.ref it) .none Y.env)
        ((model Y.prog Y.w).den (.compLoop (.GeneratorExp elt [⟨tg, iter, [], 0⟩] scope pos) 0 (.ref it) .none Y.env)) [] s := by
  have free : ∀ {σ : L2.St} {ps : List (Addr × Obj)} {i : Nat} {H : Hp} {s : Shared}, ps.map (·.1) = fp → Inv Y ((a, go) :: ps) σ H s → Inv Y [(a, go)] σ H s ∧ ∀ b ∈ fp, FpOk Y [(a, go)] H b := fun {σ ps i H s} hm I => by
    refine ⟨I.pins_of fun p hp => I.pin p (List.mem_append_right _ (by
      rw [List.mem_singleton] at hp
      rw [hp]
      exact List.mem_cons_self)), fun b hb => ?_⟩
    rw [← hm] at hb
    obtain ⟨p, hp, rfl⟩ := List.mem_map.mp hb
    have q := I.pin p (List.mem_append_right _ (List.mem_cons_of_mem _ hp))
    refine ⟨q.2.1, q.2.2.1, q.2.2.2.1, .inl (hex _ (hm ▸ List.mem_map.mpr ⟨p, hp, rfl⟩)), (fun x c e => by rw [hcl] at e; cases e), fun r hr z => ?_⟩
    rw [hpn, List.nil_append, List.mem_singleton] at hr
    subst hr
    exact ha (by rw [← hm]; exact List.mem_map.mpr ⟨p, hp, z.symm⟩)
  intro n
  induction n with
  | zero =>
    intro i H s₀ s hG hr
    obtain ⟨σ, ps, l, z, hm, ht, I⟩ := hG
    obtain ⟨I1, hf⟩ := free (i := i) hm I
    show Seg _ Aw _ _ _ s₀ _ ((compTurn (.GeneratorExp elt [⟨tg, iter, [], 0⟩] scope pos) 0 (.ref it) .none Y.env).onRaise (leaving Y.env)) [] s
    rw [compTurn_gen, Sem.onRaise_eq_wrap]
    refine seg_bind_wrap (wpAny_standAt ?_)
    refine seg_bind_wrap ?_
    rw [← hY]
    refine wpAny_mono (T.done Y rfl rfl rfl hcalm i [(a, go)] s σ H (fun _ _ => False) I1 hf ht hr.1) ?_ fun _ _ x => x.elim
    rintro r s1 ⟨rfl, I2⟩
    exact seg_end (.ok .next) (.inl ⟨.inr rfl, σ, H, I2.pins_of fun p hp => by simp at hp, hr.2⟩)
  | succ n ih =>
    intro i H s₀ s hG hr
    obtain ⟨σ, ps, l, z, hm, ht, I⟩ := hG
    obtain ⟨I1, hf⟩ := free (i := i) hm I
    have pa := I1.pin (a, go) (List.mem_append_right _ List.mem_cons_self)
    show Seg _ Aw _ _ _ s₀ _ ((compTurn (.GeneratorExp elt [⟨tg, iter, [], 0⟩] scope pos) 0 (.ref it) .none Y.env).onRaise (leaving Y.env)) [] s
    rw [compTurn_gen, Sem.onRaise_eq_wrap]
    refine seg_bind_wrap (wpAny_standAt ?_)
    refine seg_bind_wrap ?_
    rw [← hY]
    refine wpAny_mono (T.item Y rfl rfl rfl hcalm i [(a, go)] s σ H (fun _ _ => False) I1 hf ht hr.1) ?_ fun _ _ x => x.elim
    rintro r s1 ⟨u, rfl, w1⟩
    refine seg_bind_wrap ?_
    rw [← hY]
    refine wpAny_mono w1 ?_ fun _ _ x => x.elim
    rintro _ s2 ⟨x, H1, I2, ru, hy, ht2, hnone⟩
    obtain ⟨ps2, hm2, ho2⟩ := objs_of (T.obj (i + 1) s2.heap ht2)
    have I3 : Inv Y ((a, go) :: ps2) σ H1 s2 := I2.pins_of fun p hp => by
      rcases List.mem_cons.mp hp with rfl | hp
      · exact I2.pin _ (List.mem_append_right _ List.mem_cons_self)
      · have hb : p.1 ∈ fp := hm2 ▸ List.mem_map.mpr ⟨p, hp, rfl⟩
        obtain ⟨_, f1, f2, _⟩ := hf _ hb
        exact ⟨(ho2 p hp).1, hnone _ hb, f1, f2, (ho2 p hp).2⟩
    refine seg_bind_wrap ?_
    rw [← hY]
    refine wpAny_mono (hg.run _ _ σ H1 x u _ I3 ru (hr.2 x H1 hy σ l z)) ?_ fun e s' hx => by rw [hxe] at hx; exact hx.elim
    rintro _ s3 ⟨σ3, H3, I4, l3, z3, q3⟩
    refine seg_bind_wrap ?_
    simp only [List.forIn_nil]
    refine wpAny_pure ?_
    simp only [if_true]
    have hyo : ∀ v, yieldOut Y.env v = yieldValue v := fun v => by simp only [yieldOut, hco, Bool.false_eq_true, if_false]
    simp only [hyo]
    rw [Sem.bind_eq_wrap', Sem.bind_eq_wrap', Sem.wrap_wrap, Sem.wrap_wrap]
    refine seg_wrap ?_
    rw [← hY]
    refine wpAny_mono (hel.run _ _ _ _ _ I4 q3) (fun y s4 h4 => ?_) fun e s' hx => by rw [hxe] at hx; exact hx.elim
    obtain ⟨r, H4, I5, rr, b, rfl, htr, hfa⟩ := h4
    obtain rfl : y = Value.bool b := rr
    have G4 : GInv2 Y a go fp tn L (i + 1) H4 s4 := by
      refine ⟨σ3, ps2, l3, z3, hm2, T.keep (i + 1) s2.heap s4.heap ht2 fun b hb o e => ?_, I5⟩
      rw [← hm2] at hb
      obtain ⟨p, hp, rfl⟩ := List.mem_map.mp hb
      rw [(ho2 p hp).1] at e
      cases e
      exact (I5.pin p (List.mem_append_right _ (List.mem_cons_of_mem _ hp))).1
    refine seg_at (seg_yield rfl rfl rfl ⟨b, i + 1, H4, rfl, G4, hfa, fun hb s' o g e => ?_⟩)
    exact seg_again rfl (ih (i + 1) H4 s' s' (G4.woke o g e) (htr hb))
theorem seg_itStart (hA : Aw.handled = none) (hY : Y.A = Aw.over (.compLoop (.GeneratorExp elt [⟨tg, iter, [], 0⟩] scope pos) 0 (.ref it) .none Y.env) []) (hco : Y.env.scope.isCoroutine = false) (hcl : Y.env.cells = []) (hex : ∀ b ∈ fp, b ∈ Y.ex) (ha : a ∉ fp) (hpn : Y.pn = [])
    (hcalm : Y.calm = true) (hxe : Y.xe = fun _ _ => False) (T : Turn Y.prog Y.w Y.K tg J fp it tn) (hg : PG Y tg g) (hel : PE Y elt te) {n : Nat} {H : Hp} {s₀ s : Shared} (hG : GInv2 Y a go fp tn L 0 H s) (hr : rdAllI g te J L n 0 H Q) :
    Seg (model Y.prog Y.w) Aw (gEnd Y Q) (gProt2 Y a go fp tn L Q) n s₀ (.compStart (.GeneratorExp elt [⟨tg, iter, [], 0⟩] scope pos) 0 (.ref it) .none Y.env)
      ((model Y.prog Y.w).den (.compStart (.GeneratorExp elt [⟨tg, iter, [], 0⟩] scope pos) 0 (.ref it) .none Y.env)) [] s := by
  have again : Seg (model Y.prog Y.w) Aw (gEnd Y Q) (gProt2 Y a go fp tn L Q) n s₀ (.compStart (.GeneratorExp elt [⟨tg, iter, [], 0⟩] scope pos) 0 (.ref it) .none Y.env) (.pure (.again (.compLoop (.GeneratorExp elt [⟨tg, iter, [], 0⟩] scope pos) 0 (.ref it) .none Y.env))) [] s :=
    seg_again rfl (seg_itLoop hA hY hco hcl hex ha hpn hcalm hxe T hg hel n 0 H s₀ s hG hr)
  obtain ⟨σ, ps, l, z, hm, ht, I⟩ := hG
  show Seg _ Aw _ _ _ s₀ _ ((compStart _ 0 (.ref it) .none Y.env).onRaise (leaving Y.env)) [] s
  unfold compStart
  rw [Sem.onRaise_eq_wrap]
  apply seg_bind_wrap (m := ask)
  apply wpAny_askSetting
  split
  · exact again
  · apply seg_bind_wrap
    apply wpAny_rule
    apply seg_bind_wrap
    apply wpAny_standAt
    apply seg_bind_wrap
    exact T.self _ 0 s _ _ ht again
end
theorem all_loop2 {Y : Cx} {A : Around} {a : Addr} {fp : List Addr} {tn : Nat → Heap → Prop} {L : Nat} {go : Obj} {g : Nat} {R : Result → Shared → Prop} {Q : Bool → Hp → Prop} (hh : A.handled = none) (hd : A.depth < recursionLimit) (G : GenO go g)
    (fin : ∀ b σ H s, Inv Y [] σ H s → Q b H → R (.ok (.ret (.bool b))) s) :
    ∀ (n : Nat) (s : Shared), s.heap.get? a = some go → s.heap.NoLimit → (∃ gs, s.gens[g]? = some gs ∧ gs.Goes (model Y.prog Y.w) A.in1.in1 (gEnd Y Q) (gProt2 Y a go fp tn L Q) n (.send .none) (s.setGen g .running)) →
      codeAny (model Y.prog Y.w) A (.builtin "all.loop" ⟨[.ref a], []⟩) R s := by
  intro n
  induction n with
  | zero =>
    intro s ha hl ⟨gs, hgs, hgo⟩
    apply codeAny_builtin F.entry_all_loop
    rw [Around.under_plainId F.plain_all_loop _]
    show wpAny _ A.in1 (pyNext (.ref a) >>= _) _ _ s
    apply wpAny_bind
    apply next_genG (A := A.in1) (F := gDone Y Q) (Er := fun _ _ => False) hh hl hd (G.at ha) hgs hgo
    · intro v s1 gs' hb hv
      obtain ⟨b, i, H, rfl, hG, hf, ht⟩ := hv
      cases b with
      | true =>
        obtain ⟨_, _, _, _, _, _, J⟩ := hG
        exact False.elim (ht rfl s1 rfl J.bare rfl)
      | false =>
        obtain ⟨σ, io, _, _, _, _, J⟩ := hG
        apply wpAny_bind
        apply wpAny_holding
        apply wpAny_truthy_bool
        apply wpAny_bind
        apply wpAny_letGo
        show wpAny _ _ (rule _ >>= _) _ _ _
        apply wpAny_bind
        apply wpAny_rule
        apply wpAny_pure
        exact fin false σ H _ (inv_gens (J.pins_of fun p hp => by simp at hp) rfl (allBare_setGen J.bare hb) fun _ _ e => e) (hf rfl)
    · intro s1 hp h' hk
      obtain ⟨σ, H, J, q⟩ := hp
      show wpAny _ _ (rule _ >>= _) _ _ _
      apply wpAny_bind
      apply wpAny_rule
      apply wpAny_pure
      exact fin true σ H _ (inv_gens J rfl (allBare_setGen J.bare rfl) hk) q
    · intro e s1 he
      exact he.elim
  | succ n ih =>
    intro s ha hl ⟨gs, hgs, hgo⟩
    have hgl : g < s.gens.size := (Array.getElem?_eq_some_iff.mp hgs).1
    apply codeAny_builtin F.entry_all_loop
    rw [Around.under_plainId F.plain_all_loop _]
    show wpAny _ A.in1 (pyNext (.ref a) >>= _) _ _ s
    apply wpAny_bind
    apply wpAny_gsz (n := g + 1) hgl
    apply next_genG (A := A.in1) (F := gDone Y Q) (Er := fun _ _ => False) hh hl hd (G.at ha) hgs hgo
    · intro v s1 gs' hb hv hsz
      obtain ⟨b, i, H, rfl, hG, hf, ht⟩ := hv
      have hG' := hG
      obtain ⟨σ, io, _, _, _, _, J⟩ := hG'
      have pa := J.pin (a, go) (List.mem_append_right _ (by simp))
      apply wpAny_bind
      apply wpAny_holding
      apply wpAny_truthy_bool
      apply wpAny_bind
      apply wpAny_letGo
      cases b with
      | false =>
        show wpAny _ _ (rule _ >>= _) _ _ _
        apply wpAny_bind
        apply wpAny_rule
        apply wpAny_pure
        exact fin false σ H _ (inv_gens (J.pins_of fun p hp => by simp at hp) rfl (allBare_setGen J.bare hb) fun _ _ e => e) (hf rfl)
      | true =>
        simp only [if_true]
        have hsz1 : g < s1.gens.size := by
          have q : (s1.setGen g gs').gens.size = s1.gens.size := setGen_size _ _ _
          have : g + 1 ≤ (s1.setGen g gs').gens.size := hsz
          omega
        refine wpAny_pure ⟨plainId_quiet F.plain_all_loop _, ih (s1.setGen g gs') pa.1 J.nolimit ⟨gs', setGen_at hsz1, ?_⟩⟩
        exact ht rfl _ rfl (allBare_setGen (s := s1.setGen g gs') (allBare_setGen J.bare hb) rfl) rfl
    · intro s1 hp h' hk hsz
      obtain ⟨σ, H, J, q⟩ := hp
      show wpAny _ _ (rule _ >>= _) _ _ _
      apply wpAny_bind
      apply wpAny_rule
      apply wpAny_pure
      exact fin true σ H _ (inv_gens J rfl (allBare_setGen J.bare rfl) hk) q
    · intro e s1 he
      exact he.elim

theorem envs_loopI {elt iter tg : Expr} {pos : Pos} {scope : Scope} {it acc : Value} {env : Env} {A : Around} {l : List Env} (h : A.frames = some l) : (A.over (.compLoop (.GeneratorExp elt [⟨tg, iter, [], 0⟩] scope pos) 0 it acc env) []).frames = some (env :: l) := by
  show pushEnvs (Code.envs (.compLoop (.GeneratorExp elt [⟨tg, iter, [], 0⟩] scope pos) 0 it acc env)) (pushEnvs [] A.frames) = _
  rw [h]
  rfl
theorem room_loopI {k : Nat} {A : Around} {elt iter tg : Expr} {pos : Pos} {scope : Scope} {it acc : Value} {env : Env} (r : Room (k + 1) A) : Room k (A.in1.in1.over (.compLoop (.GeneratorExp elt [⟨tg, iter, [], 0⟩] scope pos) 0 it acc env) []) := by
  have h1 : (A.in1.in1.over (.compLoop (.GeneratorExp elt [⟨tg, iter, [], 0⟩] scope pos) 0 it acc env) []).depth = A.in1.in1.depth + 1 := rfl
  have h2 : (A.in1.in1.over (.compLoop (.GeneratorExp elt [⟨tg, iter, [], 0⟩] scope pos) 0 it acc env) []).units = A.in1.in1.units + 3 := rfl
  have h3 : A.in1.in1.depth = A.depth := rfl
  have h4 : A.in1.in1.units = A.units + 1 + 1 := rfl
  have h5 := r.dp
  have h6 := r.un
  exact ⟨r.hd, by rw [h1, h3]; omega, by rw [h2, h4]; omega⟩
section
variable {X : Cx} {pins : List (Addr × Obj)} {σ : L2.St} {H : Hp} {s : Shared}
/-- made, not begun; what its whole walk by all leaves -/
def ReadyI (X : Cx) (pins : List (Addr × Obj)) (σ : L2.St) (R : Nat → (Bool → Hp → Prop) → Prop) (n L : Nat) (a : Addr) (s5 : Shared) : Prop :=
  ∃ (go : Obj) (g : Nat) (fp : List Addr) (tn : Nat → Heap → Prop), GenO go g ∧ s5.heap.get? a = some go ∧ s5.heap.NoLimit ∧ g < s5.gens.size ∧ ∀ Q : Bool → Hp → Prop, R n Q → ∃ (Y : Cx),
    Y.prog = X.prog ∧ Y.w = X.w ∧ (∃ gs, s5.gens[g]? = some gs ∧ gs.Goes (model Y.prog Y.w) X.A.in1.in1 (gEnd Y Q) (gProt2 Y a go fp tn L Q) n (.send .none) (s5.setGen g .running)) ∧
    ∀ b σ' H' s', Inv Y [] σ' H' s' → Q b H' → ∃ H'', Inv X pins σ H'' s' ∧ Q b H''
theorem gen_it {c P : Addr} {elt iter tg : Expr} {xs : List Str} {gpos : Pos} {scope : Scope} {te : TE} {g : TG} {wi : TI} {k : Nat} {Q' : Value → Shared → Prop} {R : It → Nat → Hp → Prop}
    (hr : Room (k + 1) X.A) (TB : GxR.TabB X.base X.mg c P) (hcode : X.env.code = .ref c) (S : ManyN scope xs) (hi : PI X tg iter wi)
    (hg : ∀ (s : Shared) (H : Hp) (cenv : Env) (B : Around) (fp : List Addr), cenv.scope = scope → PG (gyOf X xs s H cenv B fp) tg g)
    (hel : ∀ (s : Shared) (H : Hp) (C : Addr) (code : Value) (I : Addr) (fp : List Addr), Room k (X.A.in1.in1.over (.compLoop (.GeneratorExp elt [⟨tg, iter, [], 0⟩] scope gpos) 0 (.ref I) .none (genEnv scope [] C code builtinsNs X.env)) []) →
      PE (gyOf X xs s H (genEnv scope [] C code builtinsNs X.env) (X.A.in1.in1.over (.compLoop (.GeneratorExp elt [⟨tg, iter, [], 0⟩] scope gpos) 0 (.ref I) .none (genEnv scope [] C code builtinsNs X.env)) []) fp) elt te)
    (hs : ∀ v, genFold iter X.env v = pure v) (I0 : Inv X pins σ H s)
    (h : wi σ H fun J H1 => GxR.TabG H1 P ∧ ∀ H2, GxR.Tabbed P H1 H2 → ∃ n, R J n H2)
    (hQ : ∀ J n H2 a s5, R J n H2 → ReadyI X pins σ (fun n Q => rdAllI g te J (xs.length + 1) n 0 H2 Q) n (xs.length + 1) a s5 → Q' (.ref a) s5) :
    wpAny (model X.prog X.w) X.A (eval (.GeneratorExp elt [⟨tg, iter, [], 0⟩] scope gpos) X.env) Q' X.xe s := by
  have hcl : closureFor scope X.env = pure [] := by
    rw [closure_ok fun y hy hf => absurd hf (S.free y hy), clo_none S.free]
  have hroom : X.A.depth < recursionLimit := by
    have := hr.dp
    omega
  apply wpAny_GeneratorExp_make S.co hcl S.cell S.dot S.kind hroom ?_ hs
  refine wpAny_mono (hi.run pins s σ H _ I0 h) (fun v s0 w0 => wpAny_mono w0 ?_ fun _ _ z => z) fun _ _ z => z
  rintro _ s1 ⟨it, fp, tn, J, H1, rfl, I1, T, st, hf, ⟨tb, hP, ht⟩, q1⟩
  refine ⟨I1.nolimit, ?_⟩
  have tabS : s1.heap.get? P = some { cls := .none, data := .fields tb } := I1.hok P _ hP
  have Plt : P < s1.heap.objs.size := Heap.lt_size tabS
  refine gcode (s2 := s1) hcode (TB.code.keeps fun b u e => I1.bk b u e) tabS ht fun code h3 n3 tb3 hx hsz hP3 hmore ht3 => ?_
  obtain ⟨bm, ob, e1, e2, e3, e4, e5, e6, e7, e8⟩ := TB.bm
  have cP : cStatics ≠ P := fun e => by
    obtain ⟨_, hns, _⟩ := I1.nolimit
    obtain ⟨o', es, ep, ho', hd', _⟩ := hns
    rw [e, tabS] at ho'
    cases ho'
    cases hd'
  apply wpAny_builtinsFor (m := X.mg) (by rw [I1.ok.glob]; exact (I1.mod.glob.keeps I1.bk).extBut hx TB.gP) e1 e2 (hx _ _ e4 (I1.bk _ _ e5)) e6 e7 e8
  intro h5 hns hsb
  obtain ⟨more, em⟩ := hmore
  subst em
  have I4 := GxR.inv_tab (more := more) (h' := h3) (g' := s1.gens) (d' := s1.drawn) (t' := n3) I1 hP hx hP3 I1.bare
  generalize hgo : ({ cls := .type "generator", data := .fields #[.int s1.gens.size 0, .str "<genexpr>" (n3 + 1), .str (X.env.qual ++ "<genexpr>") (n3 + 1 + 1)] } : Obj) = go
  have GO : GenO go s1.gens.size := by
    subst hgo
    exact ⟨rfl, ⟨_, _, rfl⟩, rfl⟩
  have k5 : ∀ b u, h3.get? b = some u → h5.get? b = some u := fun b u e => hsb.extBut b u (Nat.ne_of_lt (Heap.lt_size e)) (Heap.get?_push_of_some _ e)
  have k6 : ∀ b u, h3.get? b = some u → (h5.push go).get? b = some u := fun b u e => Heap.get?_push_of_some _ (k5 b u e)
  have sz5 : h5.objs.size = h3.objs.size + 1 := by rw [hsb.1, Heap.size_push]
  have hga : (h5.push go).get? h5.objs.size = some go := by
    subst hgo
    exact Heap.get?_push_size _ rfl
  have god : ∀ v, go.data ≠ .cell v := fun v q => by
    obtain ⟨nm, qn, d⟩ := GO.data
    rw [d] at q
    cases q
  -- the walked objects
  have fpP : ∀ b ∈ fp, b ≠ P := fun b hb z => by
    have := (hf b hb).1
    rw [z, hP] at this
    cases this
  have lt1 : ∀ b ∈ fp, b < s1.heap.objs.size := fun b hb => by
    obtain ⟨o, e, _⟩ := T.obj 0 s1.heap st b hb
    exact Heap.lt_size e
  have k3 : ∀ b ∈ fp, ∀ o, s1.heap.get? b = some o → h3.get? b = some o := fun b hb o e => hx b o (fpP b hb) e
  have lt3 : ∀ b ∈ fp, b < h3.objs.size := fun b hb => by
    obtain ⟨o, e, _⟩ := T.obj 0 s1.heap st b hb
    exact Heap.lt_size (k3 b hb o e)
  have none2 : ∀ b ∈ fp, (upd H1 P (.tbl (tb ++ more))) b = none := fun b hb => by
    rw [upd_ne (fpP b hb)]
    exact (hf b hb).1
  have nst : ∀ b ∈ fp, b ∉ frs X.stack := fun b hb hm => by
    rcases List.mem_cons.mp (I1.stkSub b hm) with z | z
    · exact (hf b hb).2.1 z
    · exact (hf b hb).2.2.1 z
  have nstN : ∀ b, h3.objs.size ≤ b → b ∉ frs X.stack := fun b hb hm => by
    rcases List.mem_cons.mp (I4.stkSub b hm) with z | z
    · rw [z] at hb
      exact absurd (Nat.lt_of_lt_of_le I4.lt hb) (Nat.lt_irrefl _)
    · exact I4.nofs hb z
  have st3 : tn 0 h3 := T.keep 0 s1.heap h3 st k3
  have st6 : tn 0 (h5.push go) := T.keep 0 h3 (h5.push go) st3 fun b _ o e => k6 b o e
  obtain ⟨ps, hm, ho⟩ := objs_of (T.obj 0 _ st6)
  have aN : h5.objs.size ∉ fp := fun z => by
    have q : h5.objs.size < h3.objs.size := lt3 _ z
    rw [sz5] at q
    exact Nat.not_succ_lt_self q
  obtain ⟨n, qn⟩ := q1 _ ⟨⟨_, upd_same, ht3⟩, fun b hb => upd_ne hb⟩
  refine hQ J n _ _ _ qn ⟨go, s1.gens.size, fp, tn, GO, hga, I4.nolimit.keeps k6, by show _ < (s1.gens.push _).size; rw [Array.size_push]; exact Nat.lt_succ_self _, fun Q hrd => ?_⟩
  have KY : (gyOf X xs { s1 with heap := h3, gens := s1.gens, drawn := s1.drawn, toks := n3 } (upd H1 P (.tbl (tb ++ more))) (genEnv scope [] h3.objs.size code builtinsNs X.env)
      (X.A.in1.in1.over (.compLoop (.GeneratorExp elt [⟨tg, iter, [], 0⟩] scope gpos) 0 (.ref it) .none (genEnv scope [] h3.objs.size code builtinsNs X.env)) []) fp).Ok := by
    refine ⟨I4.ok.mod, S.kind, I4.ok.glob, rfl, Nat.le_refl _, fun y z c e _ => (by cases e), fun y hy => ?_, fun y c _ e => (by cases e), fun _ => hr.hd, envs_loopI I4.ok.frames, .inr ⟨rfl, rfl⟩, fun b hb => ⟨Nat.ne_of_lt (lt3 b hb), fun y c e => (by cases e)⟩, fun b o e => I4.bs b o e, Nat.le_trans I4.ok.bsz I4.sz, fun b o e hb => ?_, fun b hb => nst b hb, I4.stack, I4.stkFree⟩
    · have hy' : scope.names.lookup y = some .cell ∨ scope.names.lookup y = some .free := hy
      rcases hy' with z | z
      · exact absurd rfl (S.cell _ (PySem.mem_of_lookup z))
      · exact absurd rfl (S.free _ (PySem.mem_of_lookup z))
    · rcases (hf b hb).2.2.2.1 with z | z
      · exact I1.ok.noex b o e z
      · exact absurd (Nat.lt_of_lt_of_le (Heap.lt_size e) (Nat.le_trans I1.ok.bsz z)) (Nat.lt_irrefl _)
  refine ⟨gyOf X xs { s1 with heap := h3, gens := s1.gens, drawn := s1.drawn, toks := n3 } (upd H1 P (.tbl (tb ++ more))) (genEnv scope [] h3.objs.size code builtinsNs X.env)
      (X.A.in1.in1.over (.compLoop (.GeneratorExp elt [⟨tg, iter, [], 0⟩] scope gpos) 0 (.ref it) .none (genEnv scope [] h3.objs.size code builtinsNs X.env)) []) fp, rfl, rfl,
    ⟨_, Array.getElem?_push_size .., rfl, seg_itStart (Aw := X.A.in1.in1) hr.hd rfl S.co rfl (fun b hb => hb) aN rfl rfl rfl T (hg _ _ _ _ _ rfl) (hel _ _ _ _ _ _ (room_loopI hr)) ⟨List.replicate (xs.length + 1) none, ps, List.length_replicate .., by simp, hm, st6, ?_⟩ hrd⟩,
    fun b σ' H' s' J q => ⟨H', I4.call' (ch := fp) J.os J.base J.hok J.bare fun b hb => ⟨(hf b hb).2.2.2.1, (hf b hb).2.1, (hf b hb).2.2.2.2.1, (hf b hb).2.2.2.2.2⟩, q⟩⟩
  refine ⟨KY, rfl, allBare_setGen (AllBare.push I1.bare rfl) rfl, Un.kept k6, ⟨_, hns.push _, fun i y v _ h2 _ => ?_⟩, fun y c e => (by cases e), I4.hok.fresh (Nat.le_refl _), fun y c e => (by cases e), fun p hp => ?_, I4.hok.kept k6, ?_⟩
  · have h2' : (List.replicate (xs.length + 1) (none : Option V))[i]? = some (some v) := h2
    rw [List.getElem?_replicate] at h2'
    split at h2' <;> cases h2'
  · rcases List.mem_cons.mp (show p ∈ (h5.objs.size, go) :: ps from hp) with rfl | hp
    · exact ⟨hga, I4.hok.fresh (show h3.objs.size ≤ h5.objs.size by omega), (by show h5.objs.size ≠ h3.objs.size; omega), nstN _ (show h3.objs.size ≤ h5.objs.size by omega), god⟩
    · have hb : p.1 ∈ fp := hm ▸ List.mem_map.mpr ⟨p, hp, rfl⟩
      exact ⟨(ho p hp).1, none2 _ hb, Nat.ne_of_lt (lt3 _ hb), nst _ hb, (ho p hp).2⟩
  · show (List.replicate (xs.length + 1) (none : Option V)).length = ((".0" : Str) :: xs).length
    rw [List.length_replicate]
    rfl
end
/-- all(e for .. in ..): the def's table may have grown when the first is asked -/
def tAllI (P : Addr) (g : TG) (te : TE) (wi : TI) (L : Nat) : TE := fun σ H Q => wi σ H fun J H1 => GxR.TabG H1 P ∧ ∀ H2, GxR.Tabbed P H1 H2 → ∃ n, rdAllI g te J L n 0 H2 fun b H' => Q (.bl b) H'

section
variable {X : Cx}
theorem pe_allI {c P : Addr} {elt iter tg : Expr} {xs : List Str} {p pos gpos : Pos} {scope : Scope} {te : TE} {g : TG} {wi : TI} {k : Nat}
    (hr : Room (k + 1) X.A) (hgl : Gl X "all") (hm : X.mg "all" = none) (TB : GxR.TabB X.base X.mg c P) (hcode : X.env.code = .ref c) (S : ManyN scope xs) (hi : PI X tg iter wi)
    (hg : ∀ (s : Shared) (H : Hp) (cenv : Env) (B : Around) (fp : List Addr), cenv.scope = scope → PG (gyOf X xs s H cenv B fp) tg g)
    (hel : ∀ (s : Shared) (H : Hp) (C : Addr) (code : Value) (I : Addr) (fp : List Addr), Room k (X.A.in1.in1.over (.compLoop (.GeneratorExp elt [⟨tg, iter, [], 0⟩] scope gpos) 0 (.ref I) .none (genEnv scope [] C code builtinsNs X.env)) []) →
      PE (gyOf X xs s H (genEnv scope [] C code builtinsNs X.env) (X.A.in1.in1.over (.compLoop (.GeneratorExp elt [⟨tg, iter, [], 0⟩] scope gpos) 0 (.ref I) .none (genEnv scope [] C code builtinsNs X.env)) []) fp) elt te)
    (hs : ∀ v, genFold iter X.env v = pure v) (hb : bootBuiltins "all" = some (.builtin "all") := by decide +kernel)
    (he : starEach [.GeneratorExp elt [⟨tg, iter, [], 0⟩] scope gpos] X.env = (false, eval (.GeneratorExp elt [⟨tg, iter, [], 0⟩] scope gpos) X.env) :: starEach [] X.env := by rfl) :
    PE X (.Call (.Name "all" p) [.GeneratorExp elt [⟨tg, iter, [], 0⟩] scope gpos] [] pos) (tAllI P g te wi (xs.length + 1)) := by
  constructor
  intro pins s σ H Q I want
  have hroom : X.A.depth < recursionLimit := by
    have := hr.dp
    omega
  apply wpAny_Call_Name_kw (ld_blt I hgl hm hb ?_)
  apply PyProof.Rows.callWith_builtin1 ?_ he (by rfl)
  rw [he]
  show wpAny _ _ (spliced ((false, eval (.GeneratorExp elt [⟨tg, iter, [], 0⟩] scope gpos) X.env) :: backTo pos (starEach [] X.env))) _ _ s
  apply Calls.spliced_cons (gen_it (R := fun J n H2 => rdAllI g te J (xs.length + 1) n 0 H2 fun b H' => Q (.bl b) H') hr TB hcode S hi hg hel hs I want ?_)
  intro J n H2 a s5 k5 ready
  obtain ⟨go, gi, fp, tn, GO, ha, lim, _, fin⟩ := ready
  obtain ⟨Y, eP, eW, hgo, back⟩ := fin _ k5
  apply Calls.spliced_nil
  apply call_function_tree F.kind_all F.plain_all F.entry_all (F.args_all1 _)
  unfold Builtin.«all»
  refine wpAny_bind (m := oneArg "all" _) (wpAny_pure ?_)
  refine wpAny_bind (wpAny_pyIter_gen (GO.at ha) ?_)
  refine wpAny_pure ⟨plainId_quiet F.plain_all_loop _, ?_⟩
  have key := all_loop2 (Y := Y) (A := X.A) (fp := fp) (tn := tn) (L := xs.length + 1) (R := fun r s' => match r with | .ok (.ret v) => EP X pins σ Q v s' | .ok _ => False | .error e => X.xe e s') hr.hd hroom GO (fun b σ' H' s' J q => by
    obtain ⟨H'', J2, q2⟩ := back b σ' H' s' J q
    exact ⟨.bl b, H'', J2, rfl, q2⟩) n s5 ha lim hgo
  rw [eP, eW] at key
  exact key
end
section
variable {X : Cx}
theorem pg_two {x1 x2 : Str} {s : Shared} {H : Hp} {cenv : Env} {B : Around} {fp : List Addr} {scope : Scope} {p1 p2 pos : Pos} {n : Nat} (ec : cenv.scope = scope) (nd : List.Nodup [(".0" : Str), x1, x2]) (h1 : scope.names.lookup x1 = some .local) (h2 : scope.names.lookup x2 = some .local) :
    PG (gyOf X [x1, x2] s H cenv B fp) (.Tuple [.Name x1 p1, .Name x2 p2] n pos) (gTup X.K 2 (gCons (gName 1) (gCons (gName 2) gNil))) := by
  subst ec
  exact pg_tup (X := gyOf X [x1, x2] s H cenv B fp) rfl (pgs_cons (pg_name (X := gyOf X [x1, x2] s H cenv B fp) (i := 1) nd rfl (Or.inl h1)) (pgs_cons (pg_name (X := gyOf X [x1, x2] s H cenv B fp) (i := 2) nd rfl (Or.inl h2)) pgs_nil))
end
end Jf
set_option Elab.async false
set_option linter.all false
set_option maxRecDepth 100000
set_option maxHeartbeats 4000000
namespace PySem.W
open Lean Elab Tactic Meta PySem PySem.Calls PyProof.Rows Builtin Builtin.ObjectAttr Builtin.Getset_descriptor PyProof.V PySem.Spec
section
variable {prog : Program} {w : World} {A : Around} {E : Value → Shared → Prop} {s : Shared} {K : Frag} {x C : Addr} {ox : Obj} {od : Option Obj} {R : Result → Shared → Prop}
/-- an attribute of an error of the program's own class is asked of BaseException's own reader -/
theorem jf_asks {name : Str} {gt : Option Value} {ex : Bool} {Q : Value → Shared → Prop} (X : K.In s.heap) (I : InstAt s.heap x ox C od)
    (h1 : findIn K (.ref C) "__getattribute__" = some (some (.builtin "BaseException.__getattribute__"))) (h2 : findIn K (.ref C) "__getattr__" = some gt) (h3 : subIn K (.ref C) (.type "BaseException") = some true)
    (go : ∀ B : Around, wpAny (model prog w) B (Builtin.«object.__getattribute__» ⟨[.ref x, .str name s.toks], []⟩) (fun f s' => ∃ v, f = .done (.ret v) ∧ handedIn v = true ∧ Q v s') (fun _ _ => False) { s with toks := s.toks + 1 }) :
    wpAny (model prog w) A (getAttr (.ref x) name ex) Q E s := by
  have same : (onTheHeap (Value.ref C) && (.builtin "BaseException.__getattribute__" : Value) == .builtin "object.__getattribute__") = false := by
    rw [show ((.builtin "BaseException.__getattribute__" : Value) == .builtin "object.__getattribute__") = false from by decide +kernel]
    rfl
  have ofB : Looks (model prog w) s.heap (isInstance (.ref x) (.type "BaseException")) true := (I.type (M := model prog w)).andThen (looks_subIn X h3)
  have byB := PySem.F.excAttr_ValueError.ga
  unfold getAttr getAttrBy
  refine wpAny_bind (wpAny_mkText (wpAny_holding (wpAny_bind ((I.type (M := model prog w)).at (wpAny_bind ((looks_findIn X h1).at ?_))))))
  dsimp only
  rw [same, if_neg (by decide)]
  unfold getAttrByItsOwn hookBefore
  refine wpAny_bind ?_
  rw [if_pos (by rfl : onTheHeap (Value.ref C) = true)]
  refine (looks_findIn X h2).at (wpAny_bind (wpAny_attempt (wpAny_holding ?_)))
  unfold callGetattribute
  rw [if_neg (by cases ex <;> exact Bool.false_ne_true : ¬ (ex && onTheHeap (Value.builtin "BaseException.__getattribute__")) = true)]
  unfold boundAndCalled
  rw [byB.bind (.ref x)]
  refine wpAny_bind (wpAny_pure (wpAny_call (codeAny_call_builtin byB.plain PySem.F.entry_bexc_ga ?_)))
  refine check_slot (s := { s with toks := s.toks + 1 }) (i := "BaseException.__getattribute__") (owner := "BaseException") (n := "__getattribute__") (by decide +kernel) (by decide +kernel) ofB (PySem.F.args_bexc_ga (.ref x) (.str name s.toks)) ?_
  refine wpAny_mono (go _) (fun f s' hf => ?_) fun _ _ z => z.elim
  obtain ⟨v, rfl, hv, q⟩ := hf
  exact handed_on hv q
/-- its class -/
theorem jf_classX {gt : Option Value} {expr : Bool} {Q : Value → Shared → Prop} (X : K.In s.heap) (I : InstAt s.heap x ox C od) (h1 : findIn K (.ref C) "__getattribute__" = some (some (.builtin "BaseException.__getattribute__"))) (h2 : findIn K (.ref C) "__getattr__" = some gt)
    (h3 : subIn K (.ref C) (.type "BaseException") = some true) (h4 : findObj K C od "__class__" = some (.bind (.builtin "getset_descriptor.__get__") (.builtin "object.__class__"))) (h5 : mroIn K C (.type "object") = some true)
    (q : Q (.ref C) { s with toks := s.toks + 1 }) : wpAny (model prog w) A (getAttr (.ref x) "__class__" expr) Q E s := by
  refine jf_asks X I h1 h2 h3 fun B => ?_
  have found := looks_find (M := model prog w) X I h4
  unfold Builtin.«object.__getattribute__»
  refine wpAny_bind (wpAny_of_eq (a := ((Value.ref x : Value), [Value.str "__class__" s.toks])) (by first | rfl | (simp only [slotArgs]; rfl)) (wpAny_bind (wpAny_pure (wpAny_bind ((I.type (M := model prog w)).at (wpAny_bind (found.at ?_)))))))
  have J : K.In ({ s with toks := s.toks + 1 } : Shared).heap := X
  refine wpAny_bind (wpAny_holding (wpAny_call (class_get (s := { s with toks := s.toks + 1 }) (ox := ox) (od := od) J I h5 (wpAny_pure ⟨_, rfl, rfl, q⟩))))
theorem jf_dga (d tp : Value) (C : Addr) : descrGetArgs ⟨[d, .ref C, tp], []⟩ = pure (d, some (.ref C), given tp) := by rfl
/-- c.__name__, what its slot keeps -/
theorem jf_name_get {tp : Value} {o : Obj} {n : Str} {tk : Tok} (X : K.In s.heap) (ht : typeIn K (.ref C) = some (.type "type")) (hl : K.lookup C = some o) (hs : o.slots[2]? = some (some (.str n tk))) (h : R (.ok (.ret (.str n tk))) s) :
    codeAny (model prog w) A (.call (.builtin "getset_descriptor.__get__") ⟨[.builtin "type.__name__", .ref C, tp], []⟩) R s := by
  obtain ⟨hh, g, dr, t, os⟩ := s
  have L0 : Looks (model prog w) hh (typeOf (.ref C)) (.type "type") := looks_typeIn X ht
  have L1 : Looks (model prog w) hh (isSubtype (.type "type") (.type "type")) true := Looks.of_pure (by rw [isSubtype_type]; kernel_rfl)
  refine codeAny_call_builtin KF.slot_gs.plain KF.entry_gs (KF.slot_gs.check _ _ _ _ _ _ _ _ ktyn_type (KF.args_gs _ _ _) ?_)
  unfold Builtin.«getset_descriptor.__get__» descrGet
  rw [jf_dga]
  refine wpAny_bind (wpAny_pure ?_)
  unfold descrGetter descrCheckInstance descrNameAndClass isInstance
  simp only [ktyn_owner]
  repeat lk
  refine ⟨Code.quiet_builtin _ (by decide +kernel), codeAny_builtin ktyn_entry ?_⟩
  unfold Builtin.«type.__name__»
  dsimp only
  unfold Builtin.keptObject slotAt
  dsimp only
  refine wpAny_bind (wpAny_bind (wpAny_bind (wpAny_loadPart (X _ _ hl) ?_)))
  refine wpAny_pure (wpAny_pure ?_)
  rw [hs]
  exact wpAny_pure h
end
end PySem.W
namespace Jf
open PySem PySem.Spec PyProof.Rows L2 Evl
/-- what is asked of a class, so that its name is read -/
structure NmC (K : PySem.W.Frag) (C : Addr) (nm : Str) : Prop where
  ga : PySem.W.findIn K (.ref C) "__getattribute__" = some (some (.builtin "BaseException.__getattribute__"))
  gg : PySem.W.findIn K (.ref C) "__getattr__" = some none
  ex : PySem.W.subIn K (.ref C) (.type "BaseException") = some true
  cl : (PySem.W.clsIn K C).isSome = true
  kc : PySem.W.findIn K (.ref C) "__class__" = some (some (.builtin "object.__class__"))
  sp : PySem.W.specialIn K (.builtin "object.__class__") "__get__" = some (some (.builtin "getset_descriptor.__get__"))
  tk : PySem.W.takesIn K (.builtin "object.__class__") = some true
  mo : PySem.W.mroIn K C (.type "object") = some true
  rd : PySem.W.readsIn K C (.type "type") = true
  fd : PySem.W.findCls K (.ref C) (.type "type") "__name__" = some (.get (.builtin "getset_descriptor.__get__") (.builtin "type.__name__") (.ref C) (.type "type"))
  ty : PySem.W.typeIn K (.ref C) = some (.type "type")
  sl : ∃ o t, K.lookup C = some o ∧ o.slots[2]? = some (some (.str nm t))
/-- e.__class__.__name__ -/
def tNm (K : PySem.W.Frag) (te : TE) : TE := fun σ H Q => te σ H fun x H1 => ∃ (a C dx : Addr) (fs : List (Str × V)) (nm : Str), x = .ref a ∧ NmC K C nm ∧ H1 a = some (exo a C (some dx)) ∧ H1 dx = some (exd dx fs) ∧ Q (.str nm) H1
theorem pe_nm {X : Cx} {e : Expr} {te : TE} {p1 pos : Pos} (he : PE X e te) (hb1 : attributeBase e "__class__" X.env (eval e X.env) = eval e X.env := by rfl)
    (hb : attributeBase (.Attribute e "__class__" p1) "__name__" X.env (eval (.Attribute e "__class__" p1) X.env) = eval (.Attribute e "__class__" p1) X.env := by rfl) : PE X (.Attribute (.Attribute e "__class__" p1) "__name__" pos) (tNm X.K te) := by
  refine ⟨fun pins s σ H Q I h => ?_⟩
  refine attr_of hb (attr_of hb1 (thn (he.run pins s σ H _ I h) fun u s1 hh => ?_))
  obtain ⟨x, H1, I1, rx, a, C, dx, fs, nm, ex, T, ea, ed, q⟩ := hh
  subst ex
  obtain rfl : u = Value.ref a := rx
  obtain ⟨t1, ho⟩ := exo_at I1.hok ea
  obtain ⟨mA, hns, hr⟩ := exd_at I1.hok ed
  obtain ⟨od, hod, hl⟩ := lookIn_ns hns
  have J : PySem.W.InstAt s1.heap a { cls := .ref C, dict := some dx, data := .fields #[.ref t1, .none, .none, .none, .bool false, .none] } C (some od) := ⟨ho, rfl, rfl, hod⟩
  refine PySem.W.jf_classX I1.kIn J T.ga T.gg T.ex (PySem.W.findObj_dataE T.cl T.kc T.sp T.tk) T.mo ?_
  obtain ⟨o, t, e1, e2⟩ := T.sl
  have I2 := I1.tok (s1.toks + 1)
  have I3 := I1.tok (s1.toks + 1 + 1)
  refine PySem.W.cls_bind (s := { s1 with toks := s1.toks + 1 }) I2.kIn T.rd T.fd (wpAny_call (PySem.W.jf_name_get (s := { s1 with toks := s1.toks + 1 + 1 }) I3.kIn T.ty e1 e2 ?_))
  refine PySem.W.handed_on rfl ?_
  exact ⟨.str nm, H1, I3, ⟨t, rfl⟩, q⟩
end Jf
set_option Elab.async false
set_option linter.all false
set_option maxRecDepth 100000
set_option maxHeartbeats 4000000
namespace Jf
open PySem PySem.Spec PyProof.Rows L2 Evl
/-! ### error classes right under one class over ValueError, each with an `__init__` of its own that calls that one's -/
def clsOk (K : PySem.W.Frag) (C CM : Addr) (nm : Str) : Bool := match K.lookup C with
  | some ⟨.type "type", _, .cls cd, sl⟩ => (match sl.toList with
    | [_, _, _, _, some (.builtin n), _] => decide (n = "ValueError.__new__") && (decide (cd.name = nm) && (decide (cd.mro = [.ref C, .ref CM, .type "ValueError", .type "Exception", .type "BaseException", .type "object"]) && (decide (cd.hasDict = true) && decide (cd.hasDel = false))))
    | _ => false)
  | _ => false
/-- its name is read -/
def fdB (K : PySem.W.Frag) (C : Addr) : Bool := match PySem.W.findCls K (.ref C) (.type "type") "__name__" with
  | some (.get (.builtin g) (.builtin a) (.ref D) (.type t)) => decide (g = "getset_descriptor.__get__") && (decide (a = "type.__name__") && (decide (D = C) && decide (t = "type")))
  | _ => false
def slB (K : PySem.W.Frag) (C : Addr) (nm : Str) : Bool := match K.lookup C with
  | some o => (match o.slots[2]? with
    | some (some (Value.str n _)) => decide (n = nm)
    | _ => false)
  | none => false
def nmB (K : PySem.W.Frag) (C : Addr) (nm : Str) : Bool := PySem.W.readsIn K C (.type "type") && (fdB K C && (slB K C nm && decide (PySem.W.findIn K (.ref C) "kind" = some none)))
theorem fd_ok {K : PySem.W.Frag} {C : Addr} (h : fdB K C = true) : PySem.W.findCls K (.ref C) (.type "type") "__name__" = some (.get (.builtin "getset_descriptor.__get__") (.builtin "type.__name__") (.ref C) (.type "type")) := by
  unfold fdB at h
  split at h
  · rename_i g a D t e
    simp only [Bool.and_eq_true, decide_eq_true_eq] at h
    obtain ⟨rfl, rfl, rfl, rfl⟩ := h
    exact e
  · cases h
theorem sl_ok {K : PySem.W.Frag} {C : Addr} {nm : Str} (h : slB K C nm = true) : ∃ o t, K.lookup C = some o ∧ o.slots[2]? = some (some (.str nm t)) := by
  unfold slB at h
  split at h
  · rename_i o e
    split at h
    · rename_i n t e2
      simp only [decide_eq_true_eq] at h
      subst h
      exact ⟨o, t, e, e2⟩
    · cases h
  · cases h
/-- all that is asked of a class, as one truth -/
def errB (K : PySem.W.Frag) (C CM f : Addr) (nm : Str) : Bool :=
  nmB K C nm && (clsOk K C CM nm && (decide (PySem.W.findIn K (.ref C) "__setattr__" = some (some (.builtin "object.__setattr__"))) && (decide (PySem.W.subIn K (.ref C) (.type "BaseException") = some true) && (decide (PySem.W.typeIn K (.ref C) = some (.type "type")) &&
  (PySem.W.keepIn K (.ref C) && (decide (PySem.W.findIn K (.ref C) "__init__" = some (some (.ref f))) && (decide (PySem.W.typeIn K (.ref f) = some (.type "function")) && (decide (PySem.W.findIn K (.ref C) "value" = some none) &&
  (decide (PySem.W.findIn K (.ref C) "__getattribute__" = some (some (.builtin "BaseException.__getattribute__"))) && (decide (PySem.W.findIn K (.ref C) "__getattr__" = some none) && (PySem.W.hasDictIn K C &&
  (decide (PySem.W.findIn K (.ref C) "__class__" = some (some (.builtin "object.__class__"))) && (decide (PySem.W.specialIn K (.builtin "object.__class__") "__get__" = some (some (.builtin "getset_descriptor.__get__"))) && (decide (PySem.W.takesIn K (.builtin "object.__class__") = some true) &&
  (decide (PySem.W.mroIn K C (.type "object") = some true) && (decide (PySem.W.exmOne K (.ref C) (.ref CM) = some true) && !(C == CM)))))))))))))))))
structure ErrX (K : PySem.W.Frag) (C CM f : Addr) (nm : Str) : Prop where
  oex : OexC K C
  i : PySem.W.findIn K (.ref C) "__init__" = some (some (.ref f))
  t : PySem.W.typeIn K (.ref f) = some (.type "function")
  noV : PySem.W.findIn K (.ref C) "value" = some none
  ec : ErrC K C
  xf : XfC K C
  named : ∃ cd, PySem.W.clsIn K C = some cd ∧ cd.name = nm ∧ cd.mro = [.ref C, .ref CM, .type "ValueError", .type "Exception", .type "BaseException", .type "object"]
  exm : PySem.W.exmOne K (.ref C) (.ref CM) = some true
  ty : PySem.W.typeIn K (.ref C) = some (.type "type")
  neM : C ≠ CM
  nm : NmC K C nm
  noK : PySem.W.findIn K (.ref C) "kind" = some none
theorem cls_ok {K : PySem.W.Frag} {C CM : Addr} {nm : Str} (h : clsOk K C CM nm = true) : (∃ q N bs bm sn sub ab col dd k0 k1 k2 k3 k5, K.lookup C = some (excClassObj nm q C N bs bm true sn sub ab col dd k0 k1 k2 k3 k5 "ValueError.__new__") ∧ PySem.HandSPX.refsVE bm = true) ∧
    ∃ cd, PySem.W.clsIn K C = some cd ∧ cd.name = nm ∧ cd.mro = [.ref C, .ref CM, .type "ValueError", .type "Exception", .type "BaseException", .type "object"] := by
  unfold clsOk at h
  split at h
  · rename_i dd cd sl ho
    split at h
    · rename_i k0 k1 k2 k3 n k5 hs
      simp only [Bool.and_eq_true, decide_eq_true_eq] at h
      obtain ⟨rfl, h1, h2, h3, h4⟩ := h
      obtain ⟨nm', bs, mro, ns, qn, hd, sn, sub, ab, col, del⟩ := cd
      dsimp only at h1 h2 h3 h4
      subst h1 h2 h3 h4
      have hsl : sl = #[k0, k1, k2, k3, some (.builtin "ValueError.__new__"), k5] := by
        obtain ⟨l⟩ := sl
        simp only at hs
        rw [hs]
      subst hsl
      exact ⟨⟨qn, ns, bs, [.ref CM, .type "ValueError", .type "Exception", .type "BaseException", .type "object"], sn, sub, ab, col, dd, k0, k1, k2, k3, k5, ho, rfl⟩, _, by unfold PySem.W.clsIn; rw [ho], rfl, rfl⟩
    · cases h
  · cases h
theorem err_ok {K : PySem.W.Frag} {C CM f : Addr} {nm : Str} (h : errB K C CM f nm = true) : ErrX K C CM f nm := by
  unfold errB at h
  simp only [Bool.and_eq_true, decide_eq_true_eq, Bool.not_eq_true', beq_eq_false_iff_ne] at h
  obtain ⟨h0, h1, sa, ex, ty, kp, hi, ht, nv, ga, gg, hd, kc, sp, tk, mo, em, nM⟩ := h
  obtain ⟨⟨q, N, bs, bm, sn, sub, ab, col, dd, k0, k1, k2, k3, k5, hl, hr⟩, cd, hc, hn, hm⟩ := cls_ok h1
  unfold nmB at h0
  simp only [Bool.and_eq_true, decide_eq_true_eq] at h0
  refine ⟨⟨⟨nm, q, N, bs, bm, sn, sub, ab, col, dd, k0, k1, k2, k3, k5, hl, hr⟩, sa, ex, ty, kp⟩, hi, ht, nv, ⟨by rw [hc]; rfl, ga, gg, ex, hd, kc, sp, tk, mo⟩, ⟨ga, gg, ex, hd⟩, ⟨cd, hc, hn, hm⟩, em, ty, nM, ?_, ?_⟩
  · exact ⟨ga, gg, ex, by rw [hc]; rfl, kc, sp, tk, mo, h0.1, fd_ok h0.2.1, ty, sl_ok h0.2.2.1⟩
  · exact h0.2.2.2
section
variable {K : PySem.W.Frag} {C D CM f g : Addr} {nm nk : Str}
theorem kit_one (C : Addr) : PySem.W.kitOne K (.ref C) (.ref C) = some true := by
  unfold PySem.W.kitOne
  rw [if_pos (by simp)]
theorem ErrX.ne (a : ErrX K C CM f nm) (b : ErrX K D CM g nk) (h : nm ≠ nk) : C ≠ D := by
  rintro rfl
  obtain ⟨cd, h1, h2, _⟩ := a.named
  obtain ⟨ce, h3, h4, _⟩ := b.named
  rw [h1] at h3
  cases h3
  exact h (h2.symm.trans h4)
/-- isinstance by another of them -/
theorem ErrX.other (a : ErrX K C CM f nm) (b : ErrX K D CM g nk) (h : nm ≠ nk) : PySem.W.kitOne K (.ref C) (.ref D) = some false := by
  have n := a.ne b h
  obtain ⟨cd, h1, h2, h3⟩ := a.named
  obtain ⟨ce, h4, _, _⟩ := b.named
  unfold PySem.W.kitOne PySem.W.kitCls
  rw [if_neg (by simpa using n)]
  dsimp only
  rw [if_pos (by rw [h4, b.ty]; rfl)]
  show PySem.W.mroIn K C (.ref D) = some false
  unfold PySem.W.mroIn
  rw [h1, Option.bind_some, h3]
  simp [n.symm, b.neM]
theorem ErrX.off (a : ErrX K C CM f nm) (b : ErrX K D CM g nk) (n : C ≠ D) : PySem.W.kitOne K (.ref C) (.ref D) = some false := by
  obtain ⟨cd, h1, h2, h3⟩ := a.named
  obtain ⟨ce, h4, _, _⟩ := b.named
  unfold PySem.W.kitOne PySem.W.kitCls
  rw [if_neg (by simpa using n)]
  dsimp only
  rw [if_pos (by rw [h4, b.ty]; rfl)]
  show PySem.W.mroIn K C (.ref D) = some false
  unfold PySem.W.mroIn
  rw [h1, Option.bind_some, h3]
  simp [n.symm, b.neM]
theorem ErrX.self1 (a : ErrX K C CM f nm) : PySem.W.exmOne K (.ref C) (.ref C) = some true := by
  obtain ⟨cd, h1, h2, h3⟩ := a.named
  refine PySem.W.exm_ref a.ec.ex a.ec.hd a.ty ?_
  show PySem.W.mroIn K C (.ref C) = some true
  unfold PySem.W.mroIn
  rw [h1, Option.bind_some, h3]
  simp
theorem ErrX.base (a : ErrX K C CM f nm) : PySem.W.kitOne K (.ref C) (.ref CM) = some true := by
  have e := a.exm
  unfold PySem.W.exmOne at e
  split at e
  · unfold PySem.W.kitOne
    split
    · rfl
    · exact e
  · cases e
theorem ErrX.ve (a : ErrX K C CM f nm) : PySem.W.kitOne K (.ref C) (.type "ValueError") = some true := by
  obtain ⟨cd, h1, h2, h3⟩ := a.named
  unfold PySem.W.kitOne PySem.W.kitCls
  rw [if_neg (by simp)]
  dsimp only
  rw [if_pos (by decide +kernel)]
  show PySem.W.mroIn K C (.type "ValueError") = some true
  unfold PySem.W.mroIn
  rw [h1, Option.bind_some, h3]
  simp
theorem ErrX.self (a : ErrX K C CM f nm) (b : ErrX K D CM g nk) (h : nm = nk) (e : C = D) : PySem.W.kitOne K (.ref C) (.ref D) = some true := e ▸ kit_one C
end
/-- what such an error keeps -/
def kd (k : Str) (v : V) : List (Str × V) := [(("kind" : Str), .str k), (("value" : Str), v)]
/-- the object made of a class, its value kept -/
def ErrAt (K : PySem.W.Frag) (C : Addr) (v : V) (x : V) (H : Hp) : Prop := ∃ a dx k, x = .ref a ∧ H a = some (exo a C (some dx)) ∧ H dx = some (exd dx (kd k v))

/-! ### making one, as a value -/
def spInit (C : Addr) : Sp := fun vs H Q _ => ∃ (a : Addr) (v : V), vs = [.ref a, v] ∧ H a = some (exo a C none) ∧
  ∀ dx k H', H dx = none → dx ≠ a → H' a = some (exo a C (some dx)) → H' dx = some (exd dx (kd k v)) → (∀ b o, b ≠ a → H b = some o → H' b = some o) → Q .non H'
/-- .. of any of those classes -/
def spInitM (K : PySem.W.Frag) : Sp := fun vs H Q _ => ∃ (C a : Addr) (v : V) (nm : Str), vs = [.ref a, v] ∧ OexC K C ∧ PySem.W.findIn K (.ref C) "value" = some none ∧ PySem.W.findIn K (.ref C) "kind" = some none ∧ NmC K C nm ∧ H a = some (exo a C none) ∧
  ∀ dx k H', H dx = none → dx ≠ a → H' a = some (exo a C (some dx)) → H' dx = some (exd dx (kd k v)) → (∀ b o, b ≠ a → H b = some o → H' b = some o) → Q .non H'
def tMkV (C : Addr) (sp : Sp) (ta : TA) : TE := fun σ H Q => ta σ H fun vs H1 => vs.length ≤ 1000 ∧ ∀ a, H1 a = none → sp (.ref a :: vs) (upd H1 a (exo a C none)) (fun v H2 => v = .non ∧ Q (.ref a) H2) (fun _ _ _ => False)
section
variable {X : Cx} {e : Expr} {es : List Expr} {ta : TA} {x m : Str} {p p1 p2 pos : Pos} {k : Nat} {fd : FuncData} {ps : List Str} {sp : Sp}
/-- C(e, ..) -/
theorem pe_mkv {CX : CXT} {C fI : Addr} (T : OexC X.K C) (iC : PySem.W.findIn X.K (.ref C) "__init__" = some (some (.ref fI))) (tI : PySem.W.typeIn X.K (.ref fI) = some (.type "function"))
    (F1 : FnOk X.prog X.w X.K X.mg X.base CX k fI fd ps sp) (hr : Room (k + 1) X.A) (hb : Binds X.K fd ps []) (hx : Passes CX X (fun _ _ _ => False)) (hg : Gl X x) (hm : X.mg x = some (.ref C)) (ha : PA X (e :: es) ta)
    (hdb : (x == ("__debug__" : Str)) = false := by decide) (he : starEach (e :: es) X.env = (false, eval e X.env) :: starEach es X.env := by rfl) (hpl : (backTo pos (starEach es X.env)).any (·.1) = false := by rfl) :
    PE X (.Call (.Name x p) (e :: es) [] pos) (tMkV C sp ta) := by
  refine ⟨fun pins s σ H Q I h => ?_⟩
  obtain ⟨nm, q, N, bs, bm, sn, sub, ab, col, dd, k0, k1, k2, k3, k5, hC, hbm⟩ := T.cls
  refine wpAny_Call_Name_kw (ld_glob I hg hm ?_ hdb)
  refine PySem.W.callWith_K (h₀ := X.base) I.ok.mod.kin T.kC (thn (ha.run pos pins s σ H _ I h) fun us s1 ⟨vs, H1, I1, r1, hz, q1⟩ => ⟨I1.kIn, ?_⟩) he hpl
  show wpAny _ _ (call (.ref C) us) _ _ _
  obtain ⟨hp, g, dr, tk, os⟩ := s1
  have hsz : hp.objs.size ≤ hp.objs.size + 1 := Nat.le_succ _
  have hn : H1 (hp.objs.size + 1) = none := I1.hok.fresh hsz
  have hq := q1 (hp.objs.size + 1) hn
  have kk : ∀ b o, hp.get? b = some o → ((hp.push (PySem.W.kdv_tup us)).push (PySem.HandSPX.excO C hp.objs.size)).get? b = some o := fun b o e => Heap.get?_push_of_some _ (Heap.get?_push_of_some _ e)
  have hget : ((hp.push (PySem.W.kdv_tup us)).push (PySem.HandSPX.excO C hp.objs.size)).get? (hp.objs.size + 1) = some (PySem.HandSPX.excO C hp.objs.size) := by heap_get
  have I2 : Inv X pins σ (upd H1 (hp.objs.size + 1) (exo (hp.objs.size + 1) C none)) ⟨(hp.push (PySem.W.kdv_tup us)).push (PySem.HandSPX.excO C hp.objs.size), g, dr, tk, os⟩ :=
    I1.laid (t' := tk) (a := hp.objs.size + 1) (o := exo (hp.objs.size + 1) C none) (h' := (hp.push (PySem.W.kdv_tup us)).push (PySem.HandSPX.excO C hp.objs.size)) kk hsz (exo_ok hget)
  have r2 : Vals (V.ref (hp.objs.size + 1) :: vs) (Value.ref (hp.objs.size + 1) :: us) := .cons rfl r1
  have hl : (Value.ref (hp.objs.size + 1) :: us ++ []).length = ps.length := by
    have e := r2.length
    rw [F1.len _ _ _ _ hq] at e
    rw [List.append_nil]
    exact e.symm
  have hus : us.length ≤ sizeLine := by
    rw [← Paired.length r1, sizeLine_eq]
    omega
  have hb2 := hb _ (Value.ref (hp.objs.size + 1) :: us) I2.kIn hl
  rw [List.append_nil] at hb2
  refine wpAny_call (PySem.HandSPX.call_own F.excBase_ValueError (fun Y => PySem.HandSPX.refsVE_contains Y bm hbm) (I1.kIn _ _ hC) (PySem.W.looks_findIn I1.kIn iC) (fun self => PySem.W.bind_fn I1.kIn self tI) hus
    (codeAny_mono (F1.run _ X.stack _ _ ⟨Value.ref (hp.objs.size + 1) :: us, []⟩ (Value.ref (hp.objs.size + 1) :: us) _ _ (fun _ _ _ => False) (hr.make C us []) (I2.env0.make C us []) hb2 r2 hq) fun r s' hq' => ?_))
  cases r with
  | error er => exact hx pins σ _ _ er s' I2 hq'
  | ok fl =>
    cases fl with
    | ret u =>
      obtain ⟨v, H2, os2, bare2, un2, hok2, rv, ev, q2⟩ := hq'
      subst ev
      obtain ⟨h2, g2, d2, t2, os'⟩ := s'
      exact ⟨rv, .ref (hp.objs.size + 1), H2, I2.call' (ch := []) os2 un2 hok2 bare2 (fun b z => absurd z (by simp)), rfl, q2⟩
    | next => exact False.elim hq'
    | brk => exact False.elim hq'
    | cont => exact False.elim hq'
/-- C.m(e, ..), m a def of the class C itself -/
theorem pe_clsdef {CX : CXT} {C f : Addr} {mc : Value} {E : XK} {pl : Sem Bool} (hg : Gl X x) (hm : X.mg x = some (.ref C)) (rd : PySem.W.readsIn X.K C mc = true) (ga : PySem.W.specialIn X.K (.ref C) "__getattribute__" = some (some (.builtin "type.__getattribute__")))
    (fi : PySem.W.findCls X.K (.ref C) mc m = some (.val (.ref f))) (hk : PySem.W.keepIn X.K (.ref f) = true) (F1 : FnOk X.prog X.w X.K X.mg X.base CX k f fd ps sp) (hr : Room k X.A) (hb : Binds X.K fd ps []) (hx : Passes CX X E) (ha : PA X (e :: es) ta)
    (hdb : (x == ("__debug__" : Str)) = false := by decide)
    (hc : eval (.Call (.Attribute (.Name x p1) m p2) (e :: es) [] pos) X.env = (do
      let ov ← eval (.Name x p1) X.env
      standAt p2.atName
      let (f, first) ← holding [ov] (getMethod ov m pl)
      callWith pos f first (backTo pos (starEach (e :: es) X.env)) (backToKw pos (keywordEach [] X.env))) := by rfl)
    (he : starEach (e :: es) X.env = (false, eval e X.env) :: starEach es X.env := by rfl) (hpl : (backTo pos (starEach es X.env)).any (·.1) = false := by rfl) :
    PE X (.Call (.Attribute (.Name x p1) m p2) (e :: es) [] pos) (tCall sp [] E ta) := by
  refine ⟨fun pins s σ H Q I h => ?_⟩
  refine PySem.W.methodCall_KW (ld_glob I hg hm ?_ hdb) hc
  refine PySem.W.method_cls I.kIn ga (PySem.W.cls_value I.kIn rd fi rfl ?_)
  show wpAny _ _ (callWith pos (Value.ref f) [] (backTo pos (starEach (e :: es) X.env)) []) _ _ _
  refine PySem.W.callWith_K (h₀ := X.base) I.ok.mod.kin hk (thn (ha.run pos pins _ σ H _ (I.tok _) h) fun us s1 ⟨vs, H1, I1, r, q⟩ => ⟨I1.kIn, ?_⟩) he hpl
  exact run_fn F1 hr hb .nil hx I1 r q
end
/-! ### what is asked of such an object -/
/-- isinstance(e, c) -/
def rIsX (K : PySem.W.Frag) : List V → Hp → VK → Prop := fun xs H Q => ∃ (a C dd : Addr) (fs : List (Str × V)) (c : V) (cv : Value) (b : Bool), xs = [.ref a, c] ∧ (∀ u, RelV c u → u = cv) ∧ ErrC K C ∧ H a = some (exo a C (some dd)) ∧ H dd = some (exd dd fs) ∧ PySem.W.kitOne K (.ref C) cv = some b ∧ Q (.bl b) H
theorem call_isX {X : Cx} : CallR X (.builtin "isinstance") (rIsX X.K) := by
  intro pins s σ H xs us Q I r h
  obtain ⟨a, C, dd, fs, c, cv, b, rfl, hcv, T, ea, ed, hk, q⟩ := h
  cases r with
  | cons rx rr =>
    cases rr with
    | cons rt rr =>
      cases rr
      cases rx
      have ec := hcv _ rt
      subst ec
      obtain ⟨t1, ho⟩ := exo_at I.hok ea
      obtain ⟨mA, hns, rel⟩ := exd_at I.hok ed
      obtain ⟨od, hod, _⟩ := lookIn_ns hns
      have J : PySem.W.InstAt s.heap a { cls := .ref C, dict := some dd, data := .fields #[.ref t1, .none, .none, .none, .bool false, .none] } C (some od) := ⟨ho, rfl, rfl, hod⟩
      refine PySem.W.kia_one (PySem.W.kitx_exc T.cl T.ga T.gg T.ex T.kc T.sp T.tk T.mo) I.kIn J hk (fun z => nomatch z) ?_
      intro tk
      exact ⟨.bl b, H, I.kept (t' := tk) fun _ _ z => z, rfl, q⟩
/-- e.f -/
def tXo (K : PySem.W.Frag) (f : Str) (te : TE) : TE := fun σ H Q => te σ H fun x H1 => ∃ (a C dd : Addr) (fs : List (Str × V)) (v : V), x = .ref a ∧ XfC K C ∧ PySem.W.findIn K (.ref C) f = some none ∧ H1 a = some (exo a C (some dd)) ∧ H1 dd = some (exd dd fs) ∧ fs.lookup f = some v ∧ Q v H1
theorem pe_xo {X : Cx} {e : Expr} {te : TE} {pos : Pos} {n : Str} (he : PE X e te) (hb : attributeBase e n X.env (eval e X.env) = eval e X.env := by rfl) : PE X (.Attribute e n pos) (tXo X.K n te) := by
  refine ⟨fun pins s σ H Q I h => ?_⟩
  refine attr_of hb (thn (he.run pins s σ H _ I h) fun u s1 hh => ?_)
  obtain ⟨x, H1, I1, rx, a, C, dd, fs, v, ex, T, hno, ea, ed, l, q⟩ := hh
  subst ex
  obtain rfl : u = Value.ref a := rx
  obtain ⟨t1, ho⟩ := exo_at I1.hok ea
  obtain ⟨mA, hns, hr⟩ := exd_at I1.hok ed
  obtain ⟨od, hod, hl⟩ := lookIn_ns hns
  obtain ⟨u, hu, ru⟩ := RelO.some_of (v := v) (o := mA n) (by rw [← l]; exact hr n)
  have J : PySem.W.InstAt s1.heap a { cls := .ref C, dict := some dd, data := .fields #[.ref t1, .none, .none, .none, .bool false, .none] } C (some od) := ⟨ho, rfl, rfl, hod⟩
  exact HandSPX.exc_get I1.kIn J T.ga T.gg T.exC (PySem.W.findObj_own T.hdC hno rfl (by rw [hl, hu])) (handed_of ru) ⟨v, H1, I1.tok _, ru, q⟩
/-! ### the class of all of them -/
def baseB (K : PySem.W.Frag) (C f : Addr) : Bool := PySem.W.readsIn K C (.type "type") && (decide (PySem.W.specialIn K (.ref C) "__getattribute__" = some (some (.builtin "type.__getattribute__"))) && PySem.W.keepIn K (.ref f))
/-- how the class of all of them stands -/
structure BaseK (K : PySem.W.Frag) (mg : Str → Option Value) (nm q : Str) (st : Stmt) where
  C : Addr
  f : Addr
  fd : FuncData
  g : mg nm = some (.ref C)
  F : Fun K "__init__" q st f fd
  b : Binds K fd ["self", "value"] []
  rd : PySem.W.readsIn K C (.type "type") = true
  ga : PySem.W.specialIn K (.ref C) "__getattribute__" = some (some (.builtin "type.__getattribute__"))
  fi : PySem.W.findCls K (.ref C) (.type "type") "__init__" = some (.val (.ref f))
  kp : PySem.W.keepIn K (.ref f) = true
/-- how one of them stands -/
structure ErrK (K : PySem.W.Frag) (mg : Str → Option Value) (nm q : Str) (CM : Addr) (st : Stmt) where
  C : Addr
  f : Addr
  fd : FuncData
  g : mg nm = some (.ref C)
  F : Fun K "__init__" q st f fd
  b : Binds K fd ["self", "value"] []
  x : ErrX K C CM f nm
theorem base_ok {K : PySem.W.Frag} {C f : Addr} (h : baseB K C f = true) : PySem.W.readsIn K C (.type "type") = true ∧ PySem.W.specialIn K (.ref C) "__getattribute__" = some (some (.builtin "type.__getattribute__")) ∧ PySem.W.keepIn K (.ref f) = true := by
  unfold baseB at h
  simp only [Bool.and_eq_true, decide_eq_true_eq] at h
  exact h
/-! ### list.count of truths -/
def eqb (k : Bool) (v : Value) : Bool := match v with
  | .bool n => n == k
  | _ => false
def rCntB (K : PySem.W.Frag) : V → List V → Hp → VK → Prop := fun x xs H Q => ∃ (p : Addr) (ns : List Bool) (k : Bool), x = .ref p ∧ xs = [.bl k] ∧ SqL K H p (ns.map V.bl) ∧ Q (.int (ns.count k : Nat)) H
theorem vals_bl : ∀ {ns : List Bool} {us : List Value}, Vals (ns.map V.bl) us → us = ns.map Value.bool
  | [], us, r => by cases r; rfl
  | n :: ns, us, r => by
    cases r with
    | cons h r2 =>
      have e := vals_bl r2
      rw [e]
      cases (show _ = Value.bool n from h)
      rfl
theorem eqb_count (k : Bool) : ∀ ns : List Bool, (ns.map Value.bool).countP (eqb k) = ns.count k
  | [] => rfl
  | n :: ns => by
    rw [List.map_cons, List.countP_cons, List.count_cons, eqb_count k ns]
    rfl
theorem mt_bcount {X : Cx} : MtR X "list.count" (rCntB X.K) := by
  intro pins s σ H x xs v us Q I rx rxs h
  obtain ⟨p, ns, k, rfl, rfl, hs, q⟩ := h
  cases rx
  obtain ⟨u, rfl, ru⟩ := rxs.one
  obtain rfl : u = Value.bool k := ru
  obtain ⟨its, rv, ⟨⟨cls, dd, data, sl⟩, n, ho, hc, hdn, hd⟩, hlen⟩ := I.list hs
  simp only at hc hd
  subst hc hd
  have hi := vals_bl rv
  subst hi
  refine call_meets PySem.F.slot_list_count ⟨_, ho, rfl⟩ PySem.F.entry_list_count (PySem.F.args_list_count_2 _ _)
    (SeqAt.list_countAt p (ns.map Value.bool).toArray n dd sl (.bool k) (eqb k)) ⟨ho, fun y hy => ?_, ?_⟩
  · have hy' : y ∈ ns.map Value.bool := by simpa using hy
    obtain ⟨b, _, rfl⟩ := List.mem_map.mp hy'
    exact SeqAt.EqAt.bool_bool b k
  have ec : (ns.map Value.bool).toArray.toList.countP (eqb k) = ns.count k := eqb_count k ns
  refine ⟨.int (ns.count k : Nat), H, I.tok _, ⟨s.toks, ?_⟩, q⟩
  show Value.int (((ns.map Value.bool).toArray.toList.countP (eqb k) : Nat) : Int) s.toks = Value.int ((ns.count k : Nat) : Int) s.toks
  rw [ec]
end Jf
set_option Elab.async false
set_option linter.all false
set_option maxRecDepth 100000
set_option maxHeartbeats 4000000
namespace Jf
open PySem PySem.Spec PyProof.Rows L2 Evl
/-- list(xs): a new list, not at sys.modules -/
def rListN (K : PySem.W.Frag) : List V → Hp → VK → Prop := fun xs H Q => ∃ (p : Addr) (ys : List V), xs = [.ref p] ∧ (SqL K H p ys ∨ SqT K H p ys) ∧ ∀ l, H l = none → l ≠ sysModules → Q (.ref l) (upd H l (.lst ys))
theorem call_listN {X : Cx} : CallR X (.type "list") (rListN X.K) := by
  rintro pins s σ H xs us Q I r ⟨p, ys, rfl, from_, k⟩
  obtain ⟨u, rfl, ru⟩ := vals1 r
  cases ru
  have done : ∀ its : List Value, Vals ys its → ys.length ≤ sizeLine → ∀ (h' : Heap) (n : Nat), (∀ b o, s.heap.get? b = some o → h'.get? b = some o) → h'.get? s.heap.objs.size = some { cls := .type "list", dict := none, data := .seq its.toArray n, slots := #[] } →
      EP X pins σ Q (.ref s.heap.objs.size) { s with heap := h' } := by
    intro its vals len h' n kp e
    have hf : H s.heap.objs.size = none := I.hok.fresh (Nat.le_refl _)
    refine ⟨.ref _, upd H _ (.lst ys), I.laid (t' := s.toks) kp (Nat.le_refl _) ?_, rfl, k _ hf (Nat.ne_of_gt I.big)⟩
    exact ⟨len, its, n, vals, e⟩
  rcases from_ with h | h
  · obtain ⟨its, vals, pl, len⟩ := I.list h
    have e := vals.length
    obtain ⟨o, e1, e2, n, e3⟩ := pl.isList
    exact call_list_seq p (.inl rfl) e1 e2 e3 (done its vals len) (by simp only [List.size_toArray]; omega)
  · obtain ⟨its, vals, pl, len⟩ := I.tuple h
    have e := vals.length
    obtain ⟨o, e1, e2, n, e3⟩ := pl
    exact call_list_seq p (.inr rfl) e1 e2 e3 (done its vals len) (by simp only [List.size_toArray]; omega)
end Jf
set_option Elab.async false
set_option linter.all false
set_option maxRecDepth 100000
set_option maxHeartbeats 4000000
namespace Jf
open PySem PySem.Spec PyProof.Rows L2
/-! ### several clauses, each with a name -/
/-- what the clauses wish of an exception of the body, one after the other -/
def wAsM (K : PySem.W.Frag) (Wout : WX) (D : Ends) : List (Value × Nat × (Addr → Value → Option Addr → TS)) → WX
  | [] => Wout
  | (c, i, ts) :: r => fun cls d σ H => ∃ b, PySem.W.exmOne K cls c = some b ∧
      (b = true → ∀ a, H a = none → ts a cls d { nx := fun σ' H' => D.nx (σ'.set i none) H', rt := D.rt, bk := fun σ' H' => D.bk (σ'.set i none) H', ct := fun σ' H' => D.ct (σ'.set i none) H' } (σ.set i (some (.ref a))) H) ∧
      (b = false → wAsM K Wout D r cls d σ H)
inductive HdsAs (X : Cx) : List ExceptHandler → List (Value × Nat × (Addr → Value → Option Addr → TS)) → Prop
  | nil : HdsAs X [] []
  | cons {x n : Str} {c : Value} {i : Nat} {ts : Addr → Value → Option Addr → TS} {b₀ : Stmt} {suite : List Stmt} {np pos' : Pos} {hds : List ExceptHandler} {l : List (Value × Nat × (Addr → Value → Option Addr → TS))}
      (hi : X.N[i]? = some n) (hln : X.env.kindOf n = some .local) (hc : Names X x c)
      (hsu : ∀ (a : Addr) (oe : Obj) (cls : Value) (d : Option Addr) (pn : List (Addr × Obj)), Zc cls d oe → (∃ vs, oe.data = .fields vs) → PSs (X.suite a ((a, oe) :: pn)) (b₀ :: suite) (ts a cls d)) (r : HdsAs X hds l) :
      HdsAs X (.ExceptHandler (some (.Name x np)) (some n) (b₀ :: suite) pos' :: hds) ((c, i, ts) :: l)
section
variable {X : Cx} {body : List Stmt} {h₀ : ExceptHandler} {hds : List ExceptHandler} {l : List (Value × Nat × (Addr → Value → Option Addr → TS))} {pos : Pos} {tb : WX → TS} {Wout : WX}
/-- an error of the body has come to the clauses: where it stands, and the state sI without it -/
structure Came (X : Cx) (pins : List (Addr × Obj)) (σ : L2.St) (H : Hp) (a : Addr) (cls : Value) (d : Option Addr) (B : Heap) (sI s : Shared) (h : Heap) : Prop where
  inv : Inv X pins σ H sI
  nb : ∀ b o, sI.heap.get? b = some o → b ∉ frs X.stack → B.get? b = some o
  free : H a = none
  os : s.os = sI.os
  ag : AllBare s.gens
  fl : HandSPX.FlyingZ B (X.env :: X.outer) a (Zc cls d) h
  up : sI.heap.UpToSlots h
section
variable {pins : List (Addr × Obj)} {σ : L2.St} {H : Hp} {a : Addr} {cls : Value} {d : Option Addr} {B h : Heap} {sI s : Shared} {D : Ends}
theorem Came.again {h' : Heap} (c : Came X pins σ H a cls d B sI s h) (f : HandSPX.FlyingZ B (X.env :: X.outer) a (Zc cls d) h') (u : h.UpToSlots h') : Came X pins σ H a cls d B sI s h' := ⟨c.inv, c.nb, c.free, c.os, c.ag, f, c.up.trans u⟩
theorem Came.here (c : Came X pins σ H a cls d B sI s h) : Inv X pins σ H { s with heap := h } := c.inv.landed c.nb c.fl.1 c.up c.os c.ag
theorem Came.off (hf : X.env.frame = some X.env.locals) (c : Came X pins σ H a cls d B sI s h) : a ≠ X.env.locals ∧ a ∉ X.fs := by
  obtain ⟨o, vs, e1, _, e2⟩ := c.fl.there
  have out : a ∉ frs (X.env :: X.outer) := fun hm => by
    obtain ⟨_, o', e3, n⟩ := c.fl.2.2.1.mem hm
    rw [e1] at e3
    cases e3
    exact n _ e2
  constructor
  · rintro rfl
    exact out (List.mem_filterMap.mpr ⟨X.env, List.mem_cons_self, hf⟩)
  · intro hm
    obtain ⟨e, he, q⟩ := List.mem_filterMap.mp hm
    exact out (List.mem_filterMap.mpr ⟨e, List.mem_cons_of_mem _ he, q⟩)
theorem Came.in (hf : X.env.frame = some X.env.locals) (c : Came X pins σ H a cls d B sI s h) : ∃ o vs, h.get? a = some o ∧ Zc cls d o ∧ o.data = .fields vs ∧ Inv (X.suite a ((a, o) :: (X.pn ++ pins))) [] σ H { s with heap := h } := by
  obtain ⟨o, vs, e1, e2, e3⟩ := c.fl.there
  exact ⟨o, vs, e1, e2, e3, c.here.suite e1 e3 c.free (c.off hf).1 (c.off hf).2⟩
/-- no clause takes it -/
theorem Came.on (hs : X.stack = X.env :: X.outer) (hf : X.env.frame = some X.env.locals) (tk : Takes X Wout) (c : Came X pins σ H a cls d B sI s h) (w : Wout cls d σ H) : wpAny (model X.prog X.w) X.A (handleBy (.ref a) X.env []) (SP X pins D) X.xe { s with heap := h } := by
  obtain ⟨_, _, _, o, vs, T, _, _, e1, _, e3, e4, _⟩ := id c.fl
  have last : wpAny (model X.prog X.w) X.A (setFlight (.ref a) X.env.frame) (fun _ s₁ => wpAny (model X.prog X.w) X.A (throw (.ref a) : Sem Flow) (SP X pins D) X.xe s₁) X.xe { s with heap := h } := by
    rw [hf]
    exact HandSPX.setFlight_upZ c.fl fun h' held u => wpAny_throw (tk _ _ ⟨a, B, sI, pins, σ, H, cls, d, rfl, c.inv, c.nb, c.up.trans u, .inr (.inr (hs ▸ held)), c.free, c.os, c.ag, w⟩)
  refine wpAny_handleBy_nil ?_
  unfold PySem.passOn
  refine wpAny_bind (wpAny_field e1 e3 e4 ?_)
  rw [if_neg (by simp : ¬ ((Value.ref T == Value.none) = true))]
  first
    | exact wpAny_bind last
    | exact wpAny_bind (wpAny_pure (wpAny_bind last))
/-- one takes it: its suite -/
theorem Came.go {i : Nat} {n : Str} {b₀ : Stmt} {suite : List Stmt} {pos' : Pos} {ts : Addr → Value → Option Addr → TS} (ok : Cx.Ok X) (hN : X.N.Nodup) (hf : X.env.frame = some X.env.locals) (hi : X.N[i]? = some n) (hln : X.env.kindOf n = some .local)
    (hsu : ∀ (a : Addr) (oe : Obj) (cls : Value) (d : Option Addr) (pn : List (Addr × Obj)), Zc cls d oe → (∃ vs, oe.data = .fields vs) → PSs (X.suite a ((a, oe) :: pn)) (b₀ :: suite) (ts a cls d)) (c : Came X pins σ H a cls d B sI s h)
    (w : ts a cls d { nx := fun σ' H' => D.nx (σ'.set i none) H', rt := D.rt, bk := fun σ' H' => D.bk (σ'.set i none) H', ct := fun σ' H' => D.ct (σ'.set i none) H' } (σ.set i (some (.ref a))) H) (o : Obj) (vs : Array Value)
    (e2 : Zc cls d o) (e3 : o.data = .fields vs) (S : Inv (X.suite a ((a, o) :: (X.pn ++ pins))) [] σ H { s with heap := h })
    {R : Flow → Shared → Prop} {Ee Eo : Value → Shared → Prop} (hR : ∀ f s', SP X pins D f s' → R f s') :
    wpAny (model X.prog X.w) (X.A.mark (some (.ref a))) (storeName X.env n (.ref a)) (fun _ s₁ => wpAny (model X.prog X.w) (X.A.mark (some (.ref a))) (execs (b₀ :: suite) X.env) (fun f s₂ =>
      wpAny (model X.prog X.w) X.A (do bindName X.env n .none; unbindBehindTheSuite X.env n pos') (fun _ s₃ => R f s₃) X.xe s₂) Ee s₁) Eo { s with heap := h } := by
  refine store_ok (X := X.suite a ((a, o) :: (X.pn ++ pins))) (v := .ref a) S hN hi (.inl hln) rfl (fun s₁ S₁ => ?_) (.inr hln)
  refine wpAny_mono ((hsu a o cls d (X.pn ++ pins) e2 ⟨_, e3⟩).run [] s₁ _ H _ S₁ w) (fun f s₂ q => ?_) fun _ _ z => z.elim
  have close : ∀ {σ₂ : L2.St} {H₂ : Hp}, Inv (X.suite a ((a, o) :: (X.pn ++ pins))) [] σ₂ H₂ s₂ → (∀ s₃, Inv X pins (σ₂.set i none) H₂ s₃ → R f s₃) → wpAny (model X.prog X.w) X.A (do bindName X.env n .none; unbindBehindTheSuite X.env n pos') (fun _ s₃ => R f s₃) X.xe s₂ :=
    fun S₂ k => gone_ok (S₂.unsuite ok) hN hi hln k
  match f, q with
  | .next, ⟨_, _, S₂, q₂⟩ => exact close S₂ fun _ J => hR _ _ ⟨_, _, J, q₂⟩
  | .brk, ⟨_, _, S₂, q₂⟩ => exact close S₂ fun _ J => hR _ _ ⟨_, _, J, q₂⟩
  | .cont, ⟨_, _, S₂, q₂⟩ => exact close S₂ fun _ J => hR _ _ ⟨_, _, J, q₂⟩
  | .ret _, ⟨_, _, _, S₂, r, q₂⟩ => exact close S₂ fun _ J => hR _ _ ⟨_, _, _, J, r, q₂⟩
/-- the clauses, from the first on -/
theorem Came.through (ok : Cx.Ok X) (hs : X.stack = X.env :: X.outer) (hf : X.env.frame = some X.env.locals) (hN : X.N.Nodup) (tk : Takes X Wout) : ∀ {hds : List ExceptHandler} {l : List (Value × Nat × (Addr → Value → Option Addr → TS))} {h : Heap}, HdsAs X hds l → Came X pins σ H a cls d B sI s h →
    wAsM X.K Wout D l cls d σ H → wpAny (model X.prog X.w) X.A (handleBy (.ref a) X.env hds) (SP X pins D) X.xe { s with heap := h }
  | _, _, _, .nil, c, w => c.on hs hf tk w
  | _, _, h, .cons (x := x) (c := cv) (np := np) hi hln hc hsu r, c, ⟨b, hb, yes, no⟩ => by
    obtain ⟨o, vs, e1, e2, e3, S⟩ := c.in hf
    have name : ∀ {Q E : Value → Shared → Prop}, Q cv { s with heap := h } → wpAny (model X.prog X.w) (X.A.mark (some (.ref a))) (eval (.Name x np) X.env) Q E { s with heap := h } := fun {Q E} q => by
      rcases hc with ⟨g, nd, m | ⟨m, v, nn⟩⟩
      · exact ld_glob (X := X.suite a ((a, o) :: (X.pn ++ pins))) S g m q nd
      · exact ld_blt (X := X.suite a ((a, o) :: (X.pn ++ pins))) S g m v q nn nd
    have of : PySem.W.Looks (model X.prog X.w) h (typeOf (.ref a)) cls := fun _ _ _ _ k q => wpAny_typeOf_ref (k _ _ e1) (by rw [e2.1]; exact q)
    refine wpAny_handleBy_cons (codeAny_handlers_test (name ((PySem.W.exm_one (M := model X.prog X.w) c.here.kIn of hb).here ?_))) (by intro z; cases z)
    match b, yes, no with
    | false, _, no => exact Came.through ok hs hf hN tk r c (no rfl)
    | true, yes, _ =>
      refine codeAny_handlers_suite_as (HandSPX.lands_againZ c.fl fun h' f' u => ?_)
      have c' := c.again f' u
      obtain ⟨o', vs', _, e2', e3', S'⟩ := c'.in hf
      exact c'.go ok hN hf hi hln hsu (yes rfl a c.free) o' vs' e2' e3' S' fun f s' q => by
        cases f <;> exact q
end
theorem ps_try_asM (hs : X.stack = X.env :: X.outer) (hf : X.env.frame = some X.env.locals) (hN : X.N.Nodup) (tk : Takes X Wout)
    (hb : ∀ (W : WX) (pn : List (Addr × Obj)) (xe : Value → Shared → Prop), Takes (X.tr pn xe) W → PassesOwn (model X.prog X.w) X.A X.env xe → PSs (X.tr pn xe) body (tb W))
    (hh : HdsAs X (h₀ :: hds) l) : PS X (.Try body (h₀ :: hds) [] [] pos) (fun D σ H => tb (wAsM X.K Wout D l) D σ H) := by
  refine ⟨fun pins s σ H D I w => wpAny_Try_except ?_⟩
  have ok := I.ok
  refine wpAny_mono ((hb (wAsM X.K Wout D l) (X.pn ++ pins) (fun e s₁ => wpAny (model X.prog X.w) X.A (noteFrame e X.env) (fun _ s₂ => wpAny (model X.prog X.w) X.A (setFlight e none) (fun _ s₃ =>
    wpAny (model X.prog X.w) X.A (handleBy e X.env (h₀ :: hds)) (SP X pins D) X.xe s₃) X.xe s₂) X.xe s₁) ?_ PassesOwn.looking).run [] s σ H D (I.toTry _) w) ?_ fun _ _ z => z
  · rintro u s' ⟨a, B, sI, _, σ', H', cls, d, rfl, J, nb, up, sky, na, os, ag, w'⟩
    exact Sky.land Zc.steady (ok.frames.trans (by rw [hs])) hf (hs ▸ sky) fun h' fl up' => Came.through ok hs hf hN tk hh ⟨J.ofTry ok, nb, na, os, ag, fl, up.trans up'⟩ w'
  · rintro f s' q
    match f, q with
    | .next, ⟨_, _, J, q⟩ => exact wpAny_execs_nil ⟨_, _, J.ofTry ok, q⟩
    | .brk, ⟨_, _, J, q⟩ => exact ⟨_, _, J.ofTry ok, q⟩
    | .cont, ⟨_, _, J, q⟩ => exact ⟨_, _, J.ofTry ok, q⟩
    | .ret _, ⟨_, _, _, J, r, q⟩ => exact ⟨_, _, _, J.ofTry ok, r, q⟩
end
end Jf
set_option Elab.async false
set_option linter.all false
set_option maxRecDepth 100000
set_option maxHeartbeats 4000000
namespace Jf
open PySem PySem.Spec PyProof.Rows L2 HT
/-! ### t[::-1] of a tuple -/
section
variable {prog : Program} {w : World} {A : Around} {E : Value → Shared → Prop} {s : Shared}
theorem rev_adjust (n : Nat) : Builtin.Slice.sliceAdjust none none (-1) (n : Int) = ((n : Int) - 1, -1) := by
  unfold Builtin.Slice.sliceAdjust
  simp
theorem rev_places (n : Nat) : Builtin.Slice.slicePlaces ((n : Int) - 1) (-1) (-1) = n := by
  unfold Builtin.Slice.slicePlaces
  have h1 : ¬ ((-1 : Int) > 0) := by decide
  simp only [h1, if_false]
  by_cases h : (n : Int) - 1 > -1
  · rw [if_pos h, show (- -1 : Int) = 1 by decide, Int.ediv_one]
    omega
  · rw [if_neg h]
    omega
theorem sliceApplied_rev {sl : Addr} {vl vu vs : Value} {n : Nat} {Q : Int × Int × Nat → Shared → Prop} (hs : s.heap.IsSliceOf sl vl vu vs) (pl : IsPart vl none) (pu : IsPart vu none) (ps : IsPart vs (some (-1)))
    (h : Q ((n : Int) - 1, -1, n) s) : wpAny (model prog w) A (Builtin.Slice.sliceApplied (.ref sl) (pure (n : Int))) Q E s := by
  obtain ⟨os, hos, hcs, hds⟩ := id hs
  unfold Builtin.Slice.sliceApplied Builtin.Slice.sliceFields
  refine wpAny_bind (wpAny_bind (wpAny_field hos hds (x := vl) rfl (wpAny_bind (wpAny_field hos hds (x := vu) rfl (wpAny_bind (wpAny_field hos hds (x := vs) rfl (wpAny_pure ?_)))))))
  refine wpAny_bind (slicePart_ ps ?_)
  show wpAny _ _ (if ((-1 : Int) == 0) = true then _ else _) _ _ s
  rw [if_neg (by decide)]
  refine wpAny_bind (slicePart_ pl (wpAny_bind (slicePart_ pu (wpAny_bind (wpAny_pure ?_)))))
  show wpAny _ _ (match Builtin.Slice.sliceAdjust none none (-1) (n : Int) with | (lo, hi) => pure (lo, (-1 : Int), Builtin.Slice.slicePlaces lo hi (-1))) _ _ s
  rw [rev_adjust n]
  show wpAny _ _ (pure ((n : Int) - 1, (-1 : Int), Builtin.Slice.slicePlaces ((n : Int) - 1) (-1) (-1))) _ _ s
  rw [rev_places]
  exact wpAny_pure h
theorem pick_rev (xs : Array Value) : ((List.range xs.size).filterMap fun (m : Nat) => xs[((xs.size : Int) - 1 + (m : Int) * (-1)).toNat]?).toArray = xs.toList.reverse.toArray := by
  have e : (fun (m : Nat) => xs[((xs.size : Int) - 1 + (m : Int) * (-1)).toNat]?) = fun m => xs[xs.size - 1 - m]? := by
    funext m
    have : ((xs.size : Int) - 1 + (m : Int) * (-1)).toNat = xs.size - 1 - m := by omega
    rw [this]
  rw [e]
  have e2 : ((List.range xs.size).filterMap fun m => xs[xs.size - 1 - m]?) = ((List.range xs.size).map fun m => xs.size - 1 - m).filterMap (xs[·]?) := by
    rw [List.filterMap_map]
    rfl
  rw [e2, PySem.W.krv_range, List.filterMap_reverse, PySem.W.krv_all]
theorem getItem_tuple_rev {t sl : Addr} {items : Array Value} {vl vu vs : Value} {Q : Value → Shared → Prop} (ht : IsTup s.heap t items) (hs : s.heap.IsSliceOf sl vl vu vs) (pl : IsPart vl none) (pu : IsPart vu none) (ps : IsPart vs (some (-1)))
    (h : Q (.ref s.heap.objs.size) { s with heap := s.heap.push { cls := .type "tuple", data := .seq items.toList.reverse.toArray } })
    (hsz : items.size ≤ sizeLine) : wpAny (model prog w) A (getItem (.ref t) (.ref sl)) Q E s := by
  have htake : sizeOk (.seq items.toList.reverse.toArray) := by
    show items.toList.reverse.toArray.size ≤ sizeLine
    rw [List.size_toArray, List.length_reverse, Array.length_toList]
    exact hsz
  obtain ⟨os, hos, hcs, hds⟩ := id hs
  have hTs : s.TypeIs (.ref sl) "slice" := ⟨os, hos, hcs⟩
  unfold getItem
  try with_reducible refine wpAny_holding ?_
  first | refine wpAny_bind (wpAny_pure ?_) | skip
  refine wpAny_bind (wpAny_sequenceKey ht.typeIs (by decide) ?_)
  refine wpAny_bind (wpAny_callSpecial?_slot (name := Str.ofString "__getitem__") ht.typeIs PyProof.Rows.slot_tuple_getitem
    (wpAny_call_entry PyProof.Rows.slot_tuple_getitem ht.typeIs entry_tuple_getitem ?_ (args_tuple_getitem _ _)))
  show wpAny _ _ (Builtin.Tuple.tupleItemsOf (.ref t) >>= _) _ _ s
  refine wpAny_bind (tupleItemsOf_ ht ?_)
  refine wpAny_bind (wpAny_typeOf hTs ?_)
  rw [if_pos (by decide)]
  refine wpAny_bind (sliceApplied_rev hs pl pu ps ?_)
  have hno : ¬ ((((items.size : Int) - 1) == 0 && (-1 : Int) == 1 && items.size == items.size) = true) := by
    intro q
    rw [Bool.and_eq_true, Bool.and_eq_true] at q
    exact absurd q.1.2 (by decide)
  show wpAny _ _ (if (((items.size : Int) - 1) == 0 && (-1 : Int) == 1 && items.size == items.size) = true then _ else _) _ _ s
  rw [if_neg hno, pick_rev]
  first
    | exact wpAny_bind (m := Builtin.Tuple.tupleExact _) (wpAny_newObj_type (wpAny_pure ⟨_, rfl, wpAny_pure h⟩) htake)
    | exact wpAny_bind (m := Builtin.Tuple.tupleExact _) (wpAny_newObj_type (wpAny_bind (wpAny_pure (wpAny_pure ⟨_, rfl, wpAny_pure h⟩))) htake)
    | exact wpAny_bind (wpAny_bind (m := Builtin.Tuple.tupleExact _) (wpAny_newObj_type (wpAny_pure (wpAny_pure ⟨_, rfl, wpAny_pure h⟩)) htake))
    | exact wpAny_bind (wpAny_bind (m := Builtin.Tuple.tupleExact _) (wpAny_newObj_type (wpAny_pure ⟨_, rfl, wpAny_pure h⟩) htake))
end
def tRevT (K : PySem.W.Frag) (te : TE) : TE := fun σ H Q => te σ H fun x H1 => ∃ a xs, x = .ref a ∧ SqT K H1 a xs ∧ ∀ p, H1 p = none → Q (.ref p) (upd H1 p (.tup xs.reverse))
theorem pe_revT {X : Cx} {e : Expr} {te : TE} {k : Nat} {p1 p2 p3 pos : Pos} (he : PE X e te) : PE X (.Subscript e (.Slice none none (some (.UnaryOp .USub (.Constant (.int 1) k p1) p2)) p3) pos) (tRevT X.K te) := by
  refine ⟨fun pins s σ H Q I h => ?_⟩
  refine Subscript_ (thn (he.run pins s σ H _ I h) fun v s1 ⟨x, H1, I1, r1, q1⟩ => ?_)
  obtain ⟨a, xs, ex, hx, q⟩ := q1
  subst ex
  cases r1
  have hst : PO X (some (.UnaryOp .USub (.Constant (.int 1) k p1) p2)) (tPart (tUn (rU fun i => .int (-i)) (tC (.int 1)))) := po_some (pe_un un_neg pe_int)
  refine wpAny_Slice (thn (po_none.run pins s1 σ H1 (fun o H2 => o = none ∧ H2 = H1) I1 ⟨rfl, rfl⟩) fun vl s2 ⟨l, H2, I2, pl, el, e2⟩ => ?_)
  subst el e2
  refine thn (po_none.run pins s2 σ H2 (fun o H3 => o = none ∧ H3 = H2) I2 ⟨rfl, rfl⟩) fun vu s3 ⟨u, H3, I3, pu, eu, e3⟩ => ?_
  subst eu e3
  refine thn (hst.run pins s3 σ H3 (fun o H4 => o = some (-1) ∧ H4 = H3) I3 ⟨1, rfl, -1, rfl, rfl, rfl⟩) fun vs s4 ⟨o, H4, I4, ps, eo, e4⟩ => ?_
  subst eo e4
  have I5 : Inv X pins σ H4 { s4 with heap := s4.heap.push { cls := .type "slice", data := .fields #[vl, vu, vs] } } := I4.kept (t' := s4.toks) fun b ob q => Heap.get?_push_of_some _ q
  obtain ⟨its, r, ht, hz⟩ := I5.tuple hx
  have hlen := r.length
  show wpAny (model X.prog X.w) X.A (subscriptTail e (.Slice none none (some (.UnaryOp .USub (.Constant (.int 1) k p1) p2)) p3) (.ref a) (.ref s4.heap.objs.size)) (EP X pins σ Q) X.xe { s4 with heap := s4.heap.push { cls := .type "slice", data := .fields #[vl, vu, vs] } }
  refine tail_any (ops := [.ref a, .ref s4.heap.objs.size]) ht.typeIs (PyProof.Rows.slot_tuple_getitem.lookup) ?_ (by with_unfolding_all rfl)
  refine getItem_tuple_rev ht (Heap.IsSliceOf.new _ vl vu vs) pl pu ps ?_ (by rw [List.size_toArray]; omega)
  refine ⟨.ref _, _, I5.laid (t' := s4.toks) (o := .tup xs.reverse) (fun b ob q => Heap.get?_push_of_some _ q) (Nat.le_refl _) ?_, rfl, q _ (I5.hok.fresh (Nat.le_refl _))⟩
  exact ⟨by rw [List.length_reverse]; exact hz, _, r.reverse, IsTup.new _ _⟩
end Jf
set_option Elab.async false
set_option linter.all false
set_option maxRecDepth 100000
set_option maxHeartbeats 4000000
namespace Jf
open PySem PySem.Spec PyProof.Rows L2 Evl
/-! ### the text -/
def topS (i : Nat) : Stmt := PySem.Challenge.pw_onenumber_k55_terms_of_forests.main.body.getD i (.Pass ⟨0, 0, 0, 0⟩)
abbrev s_is_whole : Stmt := topS 6
abbrev n_is_whole : List Str := ["value"]
abbrev s_is_number_below : Stmt := topS 7
abbrev n_is_number_below : List Str := ["value", "count"]
abbrev s_is_fraction : Stmt := topS 8
abbrev n_is_fraction : List Str := ["value", "top", "bottom"]
abbrev s_is_from_zero : Stmt := topS 9
abbrev n_is_from_zero : List Str := ["value"]
abbrev s_is_task : Stmt := topS 13
abbrev n_is_task : List Str := ["value", "number", "parent", "pay", "factor"]
abbrev s_is_forest : Stmt := topS 14
abbrev n_is_forest : List Str := ["value", "number", "entry"]
abbrev s_require_forest : Stmt := topS 15
abbrev n_require_forest : List Str := ["value"]
abbrev s_children_of : Stmt := topS 16
abbrev n_children_of : List Str := ["forest", "parent", "number", "task"]
abbrev s_put_into_one : Stmt := topS 17
abbrev n_put_into_one : List Str := ["terms"]
abbrev s_term_of_tasks : Stmt := topS 18
abbrev n_term_of_tasks : List Str := ["forest", "tasks", "number"]
abbrev s_term_of_task : Stmt := topS 19
abbrev n_term_of_task : List Str := ["forest", "number", "_", "pay", "factor"]
abbrev s_term_of_forest : Stmt := topS 20
abbrev n_term_of_forest : List Str := ["forest"]
abbrev s_forest_term : Stmt := topS 21
abbrev n_forest_term : List Str := ["forest"]
abbrev s__law_pen : Stmt := topS 23
abbrev n__law_pen : List Str := ["_law_script"]
abbrev s__law_next : Stmt := topS 24
abbrev n__law_next : List Str := ["_law_pen_here", "_law_index", "_law_cell_here", "_law_some", "_law_more", "_law_high"]
abbrev s__law_draw : Stmt := topS 25
abbrev n__law_draw : List Str := ["_law_pen_here", "_law_under", "_law_digit"]
abbrev s__law_pay : Stmt := topS 26
abbrev n__law_pay : List Str := ["_law_pen_here"]
abbrev s__law_factor : Stmt := topS 27
abbrev n__law_factor : List Str := ["_law_pen_here"]
abbrev s__law_forest : Stmt := topS 28
abbrev n__law_forest : List Str := ["_law_pen_here", "_law_most", "_law_found", "_law_number", "_law_road", "_law_parent"]
abbrev s__law_together : Stmt := topS 29
abbrev n__law_together : List Str := ["_law_terms"]
abbrev s__law_term : Stmt := topS 30
abbrev n__law_term : List Str := ["_law_forest_here", "_law_parent", "_law_found", "_law_number", "_law_elder", "_law_pay_here", "_law_factor_here", "_law_below"]
abbrev s_law : Stmt := topS 31
abbrev n_law : List Str := ["_law_script", "_law_pen_here", "_law_lap", "_law_forest_here", "_law_due", "_law_number", "_law_task"]
theorem sc_is_whole : FnScope ["value"] ["value"] (defScope s_is_whole) := ⟨rfl, rfl, rfl, by decide +kernel, rfl, by decide +kernel, by decide +kernel⟩
theorem sc_is_number_below : FnScope ["value", "count"] ["value", "count"] (defScope s_is_number_below) := ⟨rfl, rfl, rfl, by decide +kernel, rfl, by decide +kernel, by decide +kernel⟩
theorem sc_is_fraction : FnScope ["value", "top", "bottom"] ["value"] (defScope s_is_fraction) := ⟨rfl, rfl, rfl, by decide +kernel, rfl, by decide +kernel, by decide +kernel⟩
theorem sc_is_from_zero : FnScope ["value"] ["value"] (defScope s_is_from_zero) := ⟨rfl, rfl, rfl, by decide +kernel, rfl, by decide +kernel, by decide +kernel⟩
theorem sc_is_task : FnScope ["value", "number", "parent", "pay", "factor"] ["value", "number"] (defScope s_is_task) := ⟨rfl, rfl, rfl, by decide +kernel, rfl, by decide +kernel, by decide +kernel⟩
theorem sc_is_forest : FnScope ["value", "number", "entry"] ["value"] (defScope s_is_forest) := ⟨rfl, rfl, rfl, by decide +kernel, rfl, by decide +kernel, by decide +kernel⟩
theorem sc_require_forest : FnScope ["value"] ["value"] (defScope s_require_forest) := ⟨rfl, rfl, rfl, by decide +kernel, rfl, by decide +kernel, by decide +kernel⟩
theorem sc_children_of : FnScope ["forest", "parent", "number", "task"] ["forest", "parent"] (defScope s_children_of) := ⟨rfl, rfl, rfl, by decide +kernel, rfl, by decide +kernel, by decide +kernel⟩
theorem sc_put_into_one : FnScope ["terms"] ["terms"] (defScope s_put_into_one) := ⟨rfl, rfl, rfl, by decide +kernel, rfl, by decide +kernel, by decide +kernel⟩
theorem sc_term_of_tasks : FnScope ["forest", "tasks", "number"] ["forest", "tasks"] (defScope s_term_of_tasks) := ⟨rfl, rfl, rfl, by decide +kernel, rfl, by decide +kernel, by decide +kernel⟩
theorem sc_term_of_task : FnScope ["forest", "number", "_", "pay", "factor"] ["forest", "number"] (defScope s_term_of_task) := ⟨rfl, rfl, rfl, by decide +kernel, rfl, by decide +kernel, by decide +kernel⟩
theorem sc_term_of_forest : FnScope ["forest"] ["forest"] (defScope s_term_of_forest) := ⟨rfl, rfl, rfl, by decide +kernel, rfl, by decide +kernel, by decide +kernel⟩
theorem sc_forest_term : FnScope ["forest"] ["forest"] (defScope s_forest_term) := ⟨rfl, rfl, rfl, by decide +kernel, rfl, by decide +kernel, by decide +kernel⟩
theorem sc__law_pen : FnScope ["_law_script"] ["_law_script"] (defScope s__law_pen) := ⟨rfl, rfl, rfl, by decide +kernel, rfl, by decide +kernel, by decide +kernel⟩
theorem sc__law_next : FnScope ["_law_pen_here", "_law_index", "_law_cell_here", "_law_some", "_law_more", "_law_high"] ["_law_pen_here"] (defScope s__law_next) := ⟨rfl, rfl, rfl, by decide +kernel, rfl, by decide +kernel, by decide +kernel⟩
theorem sc__law_draw : FnScope ["_law_pen_here", "_law_under", "_law_digit"] ["_law_pen_here", "_law_under"] (defScope s__law_draw) := ⟨rfl, rfl, rfl, by decide +kernel, rfl, by decide +kernel, by decide +kernel⟩
theorem sc__law_pay : FnScope ["_law_pen_here"] ["_law_pen_here"] (defScope s__law_pay) := ⟨rfl, rfl, rfl, by decide +kernel, rfl, by decide +kernel, by decide +kernel⟩
theorem sc__law_factor : FnScope ["_law_pen_here"] ["_law_pen_here"] (defScope s__law_factor) := ⟨rfl, rfl, rfl, by decide +kernel, rfl, by decide +kernel, by decide +kernel⟩
theorem sc__law_forest : FnScope ["_law_pen_here", "_law_most", "_law_found", "_law_number", "_law_road", "_law_parent"] ["_law_pen_here", "_law_most"] (defScope s__law_forest) := ⟨rfl, rfl, rfl, by decide +kernel, rfl, by decide +kernel, by decide +kernel⟩
theorem sc__law_together : FnScope ["_law_terms"] ["_law_terms"] (defScope s__law_together) := ⟨rfl, rfl, rfl, by decide +kernel, rfl, by decide +kernel, by decide +kernel⟩
theorem sc__law_term : FnScope ["_law_forest_here", "_law_parent", "_law_found", "_law_number", "_law_elder", "_law_pay_here", "_law_factor_here", "_law_below"] ["_law_forest_here", "_law_parent"] (defScope s__law_term) := ⟨rfl, rfl, rfl, by decide +kernel, rfl, by decide +kernel, by decide +kernel⟩
theorem sc_law : FnScope ["_law_script", "_law_pen_here", "_law_lap", "_law_forest_here", "_law_due", "_law_number", "_law_task"] ["_law_script"] (defScope s_law) := ⟨rfl, rfl, rfl, by decide +kernel, rfl, by decide +kernel, by decide +kernel⟩
/-- what the top has written -/
structure Txt (K : PySem.W.Frag) (mg : Str → Option Value) where
  d_is_whole : FT K mg "is_whole" s_is_whole ["value"]
  d_is_number_below : FT K mg "is_number_below" s_is_number_below ["value", "count"]
  d_is_fraction : FT K mg "is_fraction" s_is_fraction ["value"]
  d_is_from_zero : FT K mg "is_from_zero" s_is_from_zero ["value"]
  d_is_task : FT K mg "is_task" s_is_task ["value", "number"]
  d_is_forest : FT K mg "is_forest" s_is_forest ["value"]
  d_require_forest : FT K mg "require_forest" s_require_forest ["value"]
  d_children_of : FT K mg "children_of" s_children_of ["forest", "parent"]
  d_put_into_one : FT K mg "put_into_one" s_put_into_one ["terms"]
  d_term_of_tasks : FT K mg "term_of_tasks" s_term_of_tasks ["forest", "tasks"]
  d_term_of_task : FT K mg "term_of_task" s_term_of_task ["forest", "number"]
  d_term_of_forest : FT K mg "term_of_forest" s_term_of_forest ["forest"]
  d_forest_term : FT K mg "forest_term" s_forest_term ["forest"]
  d__law_pen : FT K mg "_law_pen" s__law_pen ["_law_script"]
  d__law_next : FT K mg "_law_next" s__law_next ["_law_pen_here"]
  d__law_draw : FT K mg "_law_draw" s__law_draw ["_law_pen_here", "_law_under"]
  d__law_pay : FT K mg "_law_pay" s__law_pay ["_law_pen_here"]
  d__law_factor : FT K mg "_law_factor" s__law_factor ["_law_pen_here"]
  d__law_forest : FT K mg "_law_forest" s__law_forest ["_law_pen_here", "_law_most"]
  d__law_together : FT K mg "_law_together" s__law_together ["_law_terms"]
  d__law_term : FT K mg "_law_term" s__law_term ["_law_forest_here", "_law_parent"]
  d_law : FT K mg "law" s_law ["_law_script"]
  n_all : mg "all" = none
  n_bool : mg "bool" = none
  n_enumerate : mg "enumerate" = none
  n_int : mg "int" = none
  n_isinstance : mg "isinstance" = none
  n_len : mg "len" = none
  n_list : mg "list" = none
  n_range : mg "range" = none
  n_repr : mg "repr" = none
  n_tuple : mg "tuple" = none
  n_gcd : mg "gcd" = some (.builtin "math.gcd")
  a_END : Addr
  c_END : mg "END" = some (.ref a_END)
  k_END : ∃ (o : Obj) (its : Array Value) (n : Nat), K.lookup a_END = some o ∧ o.cls = .type "tuple" ∧ o.data = .seq its n ∧ its.size ≤ sizeLine ∧ Vals [.str "end"] its.toList
  a_ZERO : Addr
  c_ZERO : mg "ZERO" = some (.ref a_ZERO)
  k_ZERO : ∃ (o : Obj) (its : Array Value) (n : Nat), K.lookup a_ZERO = some o ∧ o.cls = .type "tuple" ∧ o.data = .seq its n ∧ its.size ≤ sizeLine ∧ Vals [.int 0, .int 1] its.toList
  t_MOST_TASKS : Tok
  c_MOST_TASKS : mg "MOST_TASKS" = some (.int 8 t_MOST_TASKS)
  c_is_forest : Addr
  P_is_forest : Addr
  h_is_forest : d_is_forest.fd.code = .ref c_is_forest
/-! ### the law's own draws -/
/-- all but what stands at p is as it was -/
def ExB (p : Addr) (H H' : Hp) : Prop := ∀ b o, b ≠ p → H b = some o → H' b = some o
theorem ExB.refl (p : Addr) (H : Hp) : ExB p H H := fun _ _ _ h => h
theorem ExB.trans {p : Addr} {H H1 H2 : Hp} (a : ExB p H H1) (b : ExB p H1 H2) : ExB p H H2 := fun c o n h => b c o n (a c o n h)
theorem Ex.b {p : Addr} {H H1 : Hp} (a : Ex H H1) : ExB p H H1 := fun c o _ h => a c o h
theorem ExB.upd {p : Addr} {H H1 : Hp} {o : HO} (a : ExB p H H1) : ExB p H (upd H1 p o) := fun c o n h => by
  rw [upd_ne n]
  exact a c o n h
/-- the pen at p: its cells, its place, its rest -/
def Pen (H : Hp) (p a : Addr) (N : Nat) : Prop := ∃ (cs : List Int) (at_ vl : Int), H p = some (.lst [.ref a, .int at_, .int vl]) ∧ H a = some (.lst (cs.map V.int)) ∧ a ≠ p ∧ 0 ≤ at_ ∧ at_ ≤ N ∧ 0 ≤ vl ∧ cs.length ≤ 60
theorem Pen.ex {H H' : Hp} {p a : Addr} {N : Nat} (e : Ex H H') (h : Pen H p a N) : Pen H' p a N := by
  obtain ⟨cs, t, v, h1, h2, r⟩ := h
  exact ⟨cs, t, v, e _ _ h1, e _ _ h2, r⟩
theorem Pen.mono {H : Hp} {p a : Addr} {N M : Nat} (e : N ≤ M) (h : Pen H p a N) : Pen H p a M := by
  obtain ⟨cs, t, v, h1, h2, h3, h4, h5, r⟩ := h
  exact ⟨cs, t, v, h1, h2, h3, h4, by omega, r⟩
theorem Pen.hasP {H : Hp} {p a : Addr} {N : Nat} (h : Pen H p a N) : ∃ xs, H p = some (.lst xs) := by
  obtain ⟨cs, t, v, h1, _⟩ := h
  exact ⟨_, h1⟩
theorem Pen.hasC {H : Hp} {p a : Addr} {N : Nat} (h : Pen H p a N) : ∃ xs, H a = some (.lst xs) := by
  obtain ⟨cs, t, v, _, h1, _⟩ := h
  exact ⟨_, h1⟩
/-- a new or another object's store leaves it -/
theorem Pen.upd {H : Hp} {p a q : Addr} {N : Nat} {o : HO} (h : Pen H p a N) (h1 : q ≠ p) (h2 : q ≠ a) : Pen (upd H q o) p a N := by
  obtain ⟨cs, t, v, e1, e2, r⟩ := h
  exact ⟨cs, t, v, by rw [upd_ne h1.symm]; exact e1, by rw [upd_ne h2.symm]; exact e2, r⟩
/-- a tuple stays where a list changes -/
theorem tup_lst {K : PySem.W.Frag} {H H' : Hp} {p c : Addr} {xs ys : List V} (hp : H p = some (.lst xs)) (e : ExB p H H') (h : SqT K H c ys) : SqT K H' c ys := by
  rcases h with (h | ⟨o, h⟩) | h
  · exact .inl (.inl (e c _ (by rintro rfl; rw [hp] at h; cases h) h))
  · exact .inl (.inr ⟨o, e c _ (by rintro rfl; rw [hp] at h; cases h) h⟩)
  · exact .inr h
theorem Fr.lst {K : PySem.W.Frag} {H H' : Hp} {p : Addr} {xs : List V} {b : Nat} {q : Rat} {z : V} (hp : H p = some (.lst xs)) (e : ExB p H H') (h : Fr K b q z H) : Fr K b q z H' := by
  obtain ⟨c, rfl, h, x⟩ := h
  exact ⟨c, rfl, tup_lst hp e h, x⟩
/-- a way through a block, joined behind its first statement -/
theorem s_join {t u : TS} {D : Ends} {σ : L2.St} {H : Hp} (R : L2.St → Hp → Prop) (h1 : ∀ N : L2.St → Hp → Prop, (∀ σ H, R σ H → N σ H) → t { D with nx := N } σ H) (h2 : ∀ σ H, R σ H → u D σ H) : tSeq t u D σ H := h1 (u D) h2
theorem n_seq {t u : TS} {D : Ends} {σ : L2.St} {H : Hp} (h : t { D with nx := u D } σ H) : tSeq t u D σ H := h
theorem n_c {i : Nat} {v : V} {D : Ends} {σ : L2.St} {H : Hp} (h : D.nx (σ.set i (some v)) H) : tAsg (tC v) (gName i) D σ H := h
theorem atI_map {ms : List Int} {i : Int} (h0 : 0 ≤ i) (h : i < ms.length) : ∃ x, atI (ms.map V.int) i = some (.int x) := by
  obtain ⟨k, rfl⟩ : ∃ k : Nat, i = k := ⟨i.toNat, by omega⟩
  have hk : k < ms.length := by omega
  exact ⟨ms[k], atI_nat (by rw [List.getElem?_map, List.getElem?_eq_getElem hk]; rfl)⟩
theorem b64 {i : Int} (h0 : 0 ≤ i) (h : i < 18446744073709551616) : i.natAbs < 2 ^ 64 := by
  show i.natAbs < 18446744073709551616
  omega
theorem cut_map (ms : List Int) (lo hi : Option Int) : cutV (ms.map V.int) lo hi = ((ms.drop (HT.sIx ms.length 0 lo)).take (HT.sIx ms.length ms.length hi - HT.sIx ms.length 0 lo)).map V.int := by
  unfold cutV
  rw [List.length_map, ← List.map_drop, ← List.map_take]
theorem atI_at {xs : List V} {i : Int} (h0 : 0 ≤ i) (h : i < xs.length) : ∃ x, atI xs i = some x ∧ x ∈ xs ∧ xs[i.toNat]? = some x := by
  have hk : i.toNat < xs.length := by omega
  have e := List.getElem?_eq_getElem hk
  refine ⟨xs[i.toNat], ?_, List.getElem_mem hk, e⟩
  have := atI_nat e
  rwa [show ((i.toNat : Nat) : Int) = i by omega] at this
theorem n_name {i : Nat} {v : V} {σ : L2.St} {H : Hp} {N : L2.St → Hp → Prop} (h : N (σ.set i (some v)) H) : gName i v σ H N := h
theorem n_next {D : Ends} {σ : L2.St} {H : Hp} (h : D.nx σ H) : tNext D σ H := h
theorem dp_ints {K : PySem.W.Frag} {H : Hp} : ∀ cs : List Int, DpAll K H (cs.map V.int) (cs.map PyData.int)
  | [] => .nil
  | _ :: cs => .cons (.int _) (dp_ints cs)
theorem sh_ints (cs : List Int) : SeqAt.shaped (.list (cs.map PyData.int)) = true := by
  have h1 : ∀ cs : List Int, PyData.canLayAll0 (cs.map PyData.int) = true := fun cs => by
    induction cs with
    | nil => rfl
    | cons c cs ih => simp [PyData.canLayAll0, PyData.canLay0, ih]
  have h2 : ∀ cs : List Int, PyData.depthAll (cs.map PyData.int) = 0 := fun cs => by
    induction cs with
    | nil => rfl
    | cons c cs ih => simp [PyData.depthAll, PyData.depth, ih]
  unfold SeqAt.shaped
  rw [Bool.and_eq_true]
  refine ⟨by simpa [PyData.canLay0] using h1 cs, decide_eq_true ?_⟩
  show PyData.depthAll _ + 1 ≤ 64
  rw [h2]
  decide
section
variable {P : Program} {w : World} {K : PySem.W.Frag} {mg : Str → Option Value} {base : Heap}
def spPen (K : PySem.W.Frag) : Sp := fun vs H Q _ => ∃ (a : Addr) (ns : List Int), vs = [.ref a] ∧ SqL K H a (ns.map V.int) ∧ ns.length ≤ 63 ∧ ∀ p c H', Ex H H' → Pen H' p c 0 → H p = none → Q (.ref p) H'
theorem ok__law_pen (T : Txt K mg) : FnOk P w K mg base CX0 1 T.d__law_pen.a T.d__law_pen.fd ["_law_script"] (spPen K) := by
  refine T.d__law_pen.F.ok sc__law_pen (fun vs H Q E h => ?_) (fun cdv A outer s H vs Q E hr h => ?_)
  · obtain ⟨a, ns, rfl, _⟩ := h
    rfl
  · obtain ⟨a, ns, rfl, hS, hl, k⟩ := h
    refine ⟨_, (pss_one (ps_ret (pe_lst (pa_cons (pe_callTy call_list_of (by rfl) T.n_list (by decide +kernel) (pa_cons (pe_slice sl_list (pv 0) po_none (po_some pe_int)) pa_nil)) (pa_cons pe_int (pa_cons pe_int pa_nil)))))), ?_⟩
    have e60 : HT.sIx ns.length ns.length (some 60) = min 60 ns.length := HT.sIx_nat ns.length ns.length 60
    have cc : cutV (ns.map V.int) none (some 60) = (ns.take (min 60 ns.length)).map V.int := by
      rw [cut_map, HT.sIx_none, e60, List.drop_zero, Nat.sub_zero]
    refine ⟨.ref a, rfl, 60, rfl, a, _, rfl, hS, fun p1 f1 => ?_⟩
    rw [cc]
    have x1 := Ex.new (o := .lst ((ns.take (min 60 ns.length)).map V.int)) f1
    refine ⟨p1, _, rfl, .inl (SqL.of upd_same), fun p2 f2 => ?_⟩
    have x2 := Ex.new (o := .lst ((ns.take (min 60 ns.length)).map V.int)) f2
    refine ⟨by show 3 ≤ sizeLine; decide, fun p3 f3 => ?_⟩
    have x3 := Ex.new (o := .lst [.ref p2, .int 0, .int 0]) f3
    have n23 : p2 ≠ p3 := fun z => by
      rw [← z, upd_same] at f3
      cases f3
    exact k p3 p2 _ ((x1.trans x2).trans x3) ⟨_, 0, 0, upd_same, x3 _ _ upd_same, n23, by decide, by decide, by decide, by rw [List.length_take]; omega⟩ (fresh_back (x1.trans x2) f3)
def spNext (K : PySem.W.Frag) : Sp := fun vs H Q _ => ∃ (p a : Addr) (cs : List Int) (t v : Int), vs = [.ref p] ∧ H p = some (.lst [.ref a, .int t, .int v]) ∧ H a = some (.lst (cs.map V.int)) ∧ a ≠ p ∧ 0 ≤ t ∧ t ≤ 99990 ∧ cs.length ≤ 60 ∧
  ∀ (r : Int) (H' : Hp), 0 ≤ r → ExB p H H' → H' p = some (.lst [.ref a, .int (t + 1), .int v]) → Q (.int r) H'
theorem ok__law_next (T : Txt K mg) : FnOk P w K mg base CX0 1 T.d__law_next.a T.d__law_next.fd ["_law_pen_here"] (spNext K) := by
  refine T.d__law_next.F.ok sc__law_next (fun vs H Q E h => ?_) (fun cdv A outer s H vs Q E hr h => ?_)
  · obtain ⟨p, a, cs, t, v, rfl, _⟩ := h
    rfl
  · obtain ⟨p, a, cs, t, v, rfl, hp, ha, hne, t0, t1, hl, k⟩ := h
    refine ⟨_, (pss_cons (ps_set (i := 1) sc__law_next.nd rfl (Or.inl rfl) (pe_ix ix_list (pv 0) pe_int (fun _ _ => rfl)))
      (pss_cons (ps_asg (pe_op op_add (pv 1) pe_int) (pg_sub (pv 0) pe_int set_list))
      (pss_cons (ps_set (i := 2) sc__law_next.nd rfl (Or.inl rfl) (pe_op op_add (pe_op op_mulW (pv 1) pe_int) pe_int))
      (pss_cons (ps_if (pt_cmpR (op_neD hr.units) (pe_ix ix_list (pv 0) pe_int (fun _ _ => rfl)) (pe_lst pa_nil) (nomark _)) (pss_one (ps_set (i := 2) sc__law_next.nd rfl (Or.inl rfl) (pe_ix ix_list (pe_ix ix_list (pv 0) pe_int (fun _ _ => rfl)) (pe_op op_mod (pe_callTy call_int1 (by rfl) T.n_int (by decide +kernel) (pa_cons (pv 1) pa_nil)) (pe_callB call_len_seq (by rfl) T.n_len (by decide +kernel) (pa_cons (pe_ix ix_list (pv 0) pe_int (fun _ _ => rfl)) pa_nil))) (fun _ _ => rfl)))) pss_nil)
      (pss_cons (ps_if (PW.pt (pw_and (pt_cmpR op_lt (pv 1) (pe_callB call_len_seq (by rfl) T.n_len (by decide +kernel) (pa_cons (pe_ix ix_list (pv 0) pe_int (fun _ _ => rfl)) pa_nil)) (nomark _)) (pw_and1 (pt_cmpR op_ge (pv 2) (pe_op op_pow pe_int pe_int) (nomark _))))) (pss_one (ps_ret (pv 2))) pss_nil)
      (pss_cons (ps_set (i := 3) sc__law_next.nd rfl (Or.inl rfl) (pe_op op_mod (pe_callTy call_int1 (by rfl) T.n_int (by decide +kernel) (pa_cons (pe_op op_add (pe_op op_add (pe_op op_mod (pe_callTy call_int1 (by rfl) T.n_int (by decide +kernel) (pa_cons (pv 2) pa_nil)) pe_int) (pe_op op_mulW (pv 1) pe_int)) pe_int) pa_nil)) pe_int))
      (pss_cons (ps_set (i := 4) sc__law_next.nd rfl (Or.inl rfl) (pe_op op_mod (pe_callTy call_int1 (by rfl) T.n_int (by decide +kernel) (pa_cons (pe_op op_add (pe_op op_add (pe_op op_mulW (pv 3) (pv 3)) (pe_op op_mulW (pv 1) pe_int)) pe_int) pa_nil)) pe_int))
      (pss_cons (ps_set (i := 5) sc__law_next.nd rfl (Or.inl rfl) (pe_op op_mod (pe_callTy call_int1 (by rfl) T.n_int (by decide +kernel) (pa_cons (pe_op op_add (pe_op op_add (pe_op op_mulW (pv 4) (pv 4)) (pv 3)) (pe_op op_mulW (pe_op op_mulW (pv 1) (pv 1)) pe_int)) pa_nil)) pe_int))
      (pss_one (ps_ret (pe_op op_add (pe_op op_mulW (pe_op op_add (pe_op op_mulW (pv 5) pe_int) (pv 4)) pe_int) (pv 3)))))))))))), ?_⟩
    refine n_seq ?_
    refine ⟨.ref p, rfl, p, _, 1, .int t, rfl, rfl, SqL.of hp, rfl, ?_⟩
    dsimp only
    refine n_seq ?_
    refine ⟨_, rfl, t, 1, rfl, rfl, .ref p, rfl, p, _, 1, 1, rfl, rfl, hp, rfl, ?_⟩
    dsimp only
    have eb1 : ExB p H (upd H p (.lst [.ref a, .int (t + 1), .int v])) := ExB.upd (ExB.refl p H)
    have ha1 : (upd H p (.lst [.ref a, .int (t + 1), .int v])) a = some (.lst (cs.map V.int)) := eb1 _ _ hne ha
    have hp1 : (upd H p (.lst [.ref a, .int (t + 1), .int v])) p = some (.lst [.ref a, .int (t + 1), .int v]) := upd_same
    show tSeq _ _ _ _ (upd H p (.lst [.ref a, .int (t + 1), .int v]))
    generalize upd H p (.lst [.ref a, .int (t + 1), .int v]) = H1 at eb1 ha1 hp1 ⊢
    have m1 : CMulW t 1051 := mulW (a := 64) (b := 64) (b64 t0 (by omega)) (b64 (by decide) (by decide)) (by decide)
    refine n_seq ?_
    refine ⟨_, rfl, t, 1051, rfl, rfl, m1, _, 53, rfl, rfl, ?_⟩
    dsimp only
    -- a cell of the script, if there is one
    refine s_join (fun σ G => ∃ c : Int, σ = [some (.ref p), some (.int t), some (.int c), none, none, none] ∧ Ex H1 G) (fun NX hNX => ?_) ?_
    · refine ⟨.ref p, rfl, p, _, 0, .ref a, rfl, rfl, SqL.of hp1, rfl, by show 0 ≤ sizeLine; decide, fun l fl => ?_⟩
      have x1 := Ex.new (o := .lst []) fl
      refine ⟨.list (cs.map PyData.int), .list [], .lst (SqL.of (x1 _ _ ha1)) (dp_ints cs), .lst (SqL.of upd_same) .nil, sh_ints cs, rfl, _, rfl, ?_⟩
      cases cs with
      | nil =>
        have e : PyData.eqv (.list (([] : List Int).map PyData.int)) (.list []) = true := by simp [PyData.eqv, PyData.eqvAll]
        rw [e]
        refine iteF (n_next (hNX _ _ ⟨_, rfl, x1⟩))
      | cons c0 cs =>
        have e : PyData.eqv (.list ((c0 :: cs).map PyData.int)) (.list []) = false := by simp [PyData.eqv, PyData.eqvAll]
        rw [e]
        refine iteT ?_
        have pos : (0 : Int) < ((c0 :: cs).length : Nat) := by rw [List.length_cons]; omega
        have z0 : 0 ≤ t % (((c0 :: cs).map V.int).length : Int) := Int.emod_nonneg _ (by rw [List.length_map]; omega)
        have z1 : t % (((c0 :: cs).map V.int).length : Int) < (c0 :: cs).length := by
          rw [List.length_map]
          exact Int.emod_lt_of_pos _ pos
        obtain ⟨x, hx⟩ := atI_map (ms := c0 :: cs) z0 z1
        refine ⟨.ref p, rfl, p, _, 0, .ref a, rfl, rfl, SqL.of (x1 _ _ hp1), rfl, .int t, rfl, .inl ⟨t, rfl, .ref p, rfl, p, _, 0, .ref a, rfl, rfl, SqL.of (x1 _ _ hp1), rfl, a, _, rfl, .inl (SqL.of (x1 _ _ ha1)), t, _, rfl, rfl, by rw [List.length_map]; exact pos, a, _, _, .int x, rfl, rfl, SqL.of (x1 _ _ ha1), hx, ?_⟩⟩
        exact hNX _ _ ⟨x, rfl, x1⟩
    rintro σ G ⟨c, rfl, ex⟩
    have hpG := ex _ _ hp1
    have ebG : ExB p H G := eb1.trans (Ex.b ex)
    refine s_join (fun σ G' => σ = [some (.ref p), some (.int t), some (.int c), none, none, none] ∧ G' = G) (fun NX hNX => ?_) ?_
    · refine ⟨_, rfl, .ref p, rfl, p, _, 0, .ref a, rfl, rfl, SqL.of hpG, rfl, a, _, rfl, .inl (SqL.of (ex _ _ ha1)), t, _, rfl, rfl, _, rfl, ite2 (fun c1 => ?_) (fun c1 => n_next (hNX _ _ ⟨rfl, rfl⟩))⟩
      refine ⟨_, rfl, 10, 18, rfl, rfl, ⟨by decide, by decide, by decide⟩, c, _, rfl, rfl, _, rfl, ite2 (fun c2 => ?_) (fun c2 => n_next (hNX _ _ ⟨rfl, rfl⟩))⟩
      have c2' : (10 : Int) ^ (18 : Int).toNat ≤ c := of_decide_eq_true c2
      have e2 : (10 : Int) ^ (18 : Int).toNat = 1000000000000000000 := by decide
      exact ⟨_, rfl, k c G (by omega) ebG hpG⟩
    rintro σ _ ⟨rfl, rfl⟩
    -- mixed
    have a0 : 0 ≤ c % 2147483587 := Int.emod_nonneg _ (by decide)
    have a1 : c % 2147483587 < 2147483587 := Int.emod_lt_of_pos _ (by decide)
    generalize hc : c % 2147483587 = m at a0 a1
    refine n_seq ?_
    refine ⟨.int c, rfl, .inl ⟨c, rfl, c, 2147483587, rfl, rfl, (by decide : (0 : Int) < 2147483587), _, rfl, t, 30103, rfl, rfl, mulW (a := 64) (b := 64) (b64 t0 (by omega)) (b64 (by decide) (by decide)) (by decide), _, _, rfl, rfl, _, 79, rfl, rfl, .inl ⟨_, rfl, _, 2147483587, rfl, rfl, (by decide : (0 : Int) < 2147483587), ?_⟩⟩⟩
    rw [hc]
    have s0 : 0 ≤ (m + t * 30103 + 79) % 2147483587 := Int.emod_nonneg _ (by decide)
    have s1 : (m + t * 30103 + 79) % 2147483587 < 2147483587 := Int.emod_lt_of_pos _ (by decide)
    dsimp only
    generalize (m + t * 30103 + 79) % 2147483587 = o at s0 s1 ⊢
    have oo0 : 0 ≤ o * o := Int.mul_nonneg s0 s0
    have oo1 : o * o ≤ 2147483587 * 2147483587 := Int.le_trans (Int.mul_le_mul_of_nonneg_right (by omega : o ≤ 2147483587) s0) (Int.mul_le_mul_of_nonneg_left (by omega) (by decide))
    refine n_seq ?_
    refine ⟨_, rfl, _, rfl, o, o, rfl, rfl, mulW (a := 64) (b := 64) (b64 s0 (by omega)) (b64 s0 (by omega)) (by decide), _, rfl, t, 70039, rfl, rfl, mulW (a := 64) (b := 64) (b64 t0 (by omega)) (b64 (by decide) (by decide)) (by decide), _, _, rfl, rfl, _, 61, rfl, rfl, .inl ⟨_, rfl, _, 2147483563, rfl, rfl, (by decide : (0 : Int) < 2147483563), ?_⟩⟩
    have m0 : 0 ≤ (o * o + t * 70039 + 61) % 2147483563 := Int.emod_nonneg _ (by decide)
    have m1 : (o * o + t * 70039 + 61) % 2147483563 < 2147483563 := Int.emod_lt_of_pos _ (by decide)
    dsimp only
    generalize (o * o + t * 70039 + 61) % 2147483563 = y at m0 m1 ⊢
    have tt0 : 0 ≤ t * t := Int.mul_nonneg t0 t0
    have tt1 : t * t ≤ 99990 * 99990 := Int.le_trans (Int.mul_le_mul_of_nonneg_right t1 t0) (Int.mul_le_mul_of_nonneg_left t1 (by decide))
    refine n_seq ?_
    refine ⟨_, rfl, _, rfl, y, y, rfl, rfl, mulW (a := 64) (b := 64) (b64 m0 (by omega)) (b64 m0 (by omega)) (by decide), _, rfl, _, _, rfl, rfl, _, rfl, _, rfl, t, t, rfl, rfl, mulW (a := 64) (b := 64) (b64 t0 (by omega)) (b64 t0 (by omega)) (by decide), _, 37, rfl, rfl, mulW (a := 64) (b := 64) (b64 tt0 (by omega)) (b64 (by decide) (by decide)) (by decide), _, _, rfl, rfl, .inl ⟨_, rfl, _, 2147483549, rfl, rfl, (by decide : (0 : Int) < 2147483549), ?_⟩⟩
    have h0 : 0 ≤ (y * y + o + t * t * 37) % 2147483549 := Int.emod_nonneg _ (by decide)
    have h1 : (y * y + o + t * t * 37) % 2147483549 < 2147483549 := Int.emod_lt_of_pos _ (by decide)
    dsimp only
    generalize (y * y + o + t * t * 37) % 2147483549 = z at h0 h1 ⊢
    refine ⟨_, rfl, z, 2147483587, rfl, rfl, mulW (a := 64) (b := 64) (b64 h0 (by omega)) (b64 (by decide) (by decide)) (by decide), _, rfl, _, y, rfl, rfl, _, 2147483563, rfl, rfl, mulW (a := 64) (b := 64) (b64 (by omega) (by omega)) (b64 (by decide) (by decide)) (by decide), _, rfl, _, o, rfl, rfl, ?_⟩
    exact k _ _ (by omega) ebG hpG
def spDraw (K : PySem.W.Frag) : Sp := fun vs H Q _ => ∃ (p a : Addr) (m : Int) (N : Nat), vs = [.ref p, .int m] ∧ Pen H p a N ∧ 0 < m ∧ m < 1073741824 ∧ N ≤ 99990 ∧ ∀ r H', 0 ≤ r → r < m → ExB p H H' → Pen H' p a (N + 1) → Q (.int r) H'
theorem ok__law_draw (T : Txt K mg) : FnOk P w K mg base CX0 2 T.d__law_draw.a T.d__law_draw.fd ["_law_pen_here", "_law_under"] (spDraw K) := by
  refine T.d__law_draw.F.ok sc__law_draw (fun vs H Q E h => ?_) (fun cdv A outer s H vs Q E hr h => ?_)
  · obtain ⟨p, a, m, N, rfl, _⟩ := h
    rfl
  · obtain ⟨p, a, m, N, rfl, ⟨cs, t, v, hp, ha, hne, t0, t1, v0, hlen⟩, m0, m1, hN, k⟩ := h
    refine ⟨_, (pss_cons (ps_if (pt_cmpR op_lt (pe_ix ix_list (pv 0) pe_int (fun _ _ => rfl)) (pv 1) (nomark _)) (pss_one (ps_asg (pe_call (ok__law_next T) (hr.mono (by decide)) (by rfl) T.d__law_next.g T.d__law_next.F.kp T.d__law_next.b .nil pass0 (pa_cons (pv 0) pa_nil)) (pg_sub (pv 0) pe_int set_list))) pss_nil)
      (pss_cons (ps_set (i := 2) sc__law_draw.nd rfl (Or.inl rfl) (pe_op op_mod (pe_callTy call_int1 (by rfl) T.n_int (by decide +kernel) (pa_cons (pe_ix ix_list (pv 0) pe_int (fun _ _ => rfl)) pa_nil)) (pv 1)))
      (pss_cons (ps_asg (pe_op op_fdivN (pe_ix ix_list (pv 0) pe_int (fun _ _ => rfl)) (pv 1)) (pg_sub (pv 0) pe_int set_list))
      (pss_one (ps_ret (pv 2)))))), ?_⟩
    refine s_join (fun σ H' => ∃ t' v', σ = [some (.ref p), some (.int m), none] ∧ H' p = some (.lst [.ref a, .int t', .int v']) ∧ ExB p H H' ∧ 0 ≤ t' ∧ t' ≤ N + 1 ∧ 0 ≤ v') (fun NX hNX => ?_) ?_
    · refine ⟨.ref p, rfl, p, _, 2, .int v, rfl, rfl, SqL.of hp, rfl, .int m, rfl, v, m, rfl, rfl, _, rfl, ite2 (fun c => ?_) (fun c => ?_)⟩
      · refine ⟨.ref p, rfl, p, a, cs, t, v, rfl, hp, ha, hne, t0, by omega, hlen, fun r H1 r0 eb1 hp1 => ?_⟩
        refine ⟨.ref p, rfl, p, [.ref a, .int (t + 1), .int v], 2, 2, rfl, rfl, hp1, rfl, ?_⟩
        exact hNX _ _ ⟨t + 1, r, rfl, upd_same, eb1.upd, by omega, by omega, r0⟩
      · exact n_next (hNX _ _ ⟨t, v, rfl, hp, ExB.refl p H, t0, by omega, v0⟩)
    · rintro σ H' ⟨t', v', rfl, hp', eb, a0, a1, b0⟩
      have hS : SqL K H' p [.ref a, .int t', .int v'] := SqL.of hp'
      refine ⟨.ref p, rfl, p, _, 2, .int v', rfl, rfl, hS, rfl, .inl ⟨v', rfl, .int m, rfl, v', m, rfl, rfl, m0, ?_⟩⟩
      refine ⟨.ref p, rfl, p, _, 2, .int v', rfl, rfl, hS, rfl, .int m, rfl, v', m, rfl, rfl, ⟨by omega, by omega⟩, .ref p, rfl, p, _, 2, 2, rfl, rfl, hp', rfl, ?_⟩
      refine ⟨_, rfl, k _ _ (Int.emod_nonneg _ (by omega)) (Int.emod_lt_of_pos _ m0) eb.upd ⟨cs, t', _, upd_same, ?_, hne, a0, by omega, ?_, hlen⟩⟩
      · rw [upd_ne hne]
        exact eb _ _ hne ha
      · rw [Int.fdiv_eq_ediv_of_nonneg v' (by omega)]
        exact Int.ediv_nonneg b0 (by omega)
end
/-! ### the program: onenumber.errors, onenumber.amounts, for any data -/
/-- an error of the class at C that keeps v, raised from H on -/
def Er (C : Addr) (v : V) (H : Hp) (E : XK) : Prop := ∀ dd k H', Ex H H' → H' dd = some (.xd (kd k v)) → E (.ref C) (some dd) H'
theorem Er.ex {C : Addr} {v : V} {H H1 : Hp} {E : XK} (e : Ex H H1) (h : Er C v H E) : Er C v H1 E := fun dd k H' e' q => h dd k H' (e.trans e') q
theorem rd_raise {C : Addr} {v : V} {σ : L2.St} {H : Hp} {i : Nat} {E : XK} (hv : σ[i]? = some (some v)) (k : Er C v H E) : tMkO C (spInit C) [] (tCons (tVar i) tNil) σ H E := by
  refine ⟨v, hv, by show 1 ≤ 1000; decide, fun a ha => ⟨a, v, rfl, upd_same, fun dx kn H' h1 ne e1 e2 keep => ⟨rfl, dx, _, e1, e2, ?_, ?_⟩⟩⟩
  · rw [upd_ne ne] at h1
    exact h1
  · rw [upd_ne ne] at h1
    refine k dx kn _ (fun b o hb => ?_) upd_same
    have n1 : b ≠ a := ne_of_none hb ha
    rw [upd_ne (ne_of_none hb h1), del_ne n1]
    exact keep b o n1 (by rw [upd_ne n1]; exact hb)
def ival : PyData → Int
  | .int n => n
  | _ => 0
section
variable {K : PySem.W.Frag} {p : Addr} {H H' : Hp} {v : V} {d : PyData} {σ : L2.St} {i : Nat} {b : Bool}
theorem Dq.ival (h : Dq K p H v d) (hw : isWh d = true) : v = .int (ival d) ∧ d = .int (Jf.ival d) := by
  cases h with
  | int n => exact ⟨rfl, rfl⟩
  | _ => cases hw
theorem ev_isi {T : String} (hv : σ[i]? = some (some v)) (hd : Dq K p H v d) (hk : kitB (tyName d) T = some b) : Ev (tCB (rIsi K) (tCons (tVar i) (tCons (tC (.ty T)) tNil))) σ H (.bl b) :=
  fun H1 e Q k => ⟨v, hv, v, .ty T, .type (tyName d), .type T, b, rfl, .ty _, (Dq.ex e _ _ hd).ty, kit_ty hk, k H1 (Ex.refl H1)⟩
def spIsD (K : PySem.W.Frag) (sm : PyData → Prop) (f : PyData → Bool) : Sp := fun vs H Q _ => ∃ (p : Addr) (v : V) (d : PyData), vs = [v] ∧ Dq K p H v d ∧ sm d ∧ ∀ H', Ex H H' → Q (.bl (f d)) H'
theorem ev_isD {E : XK} {sm : PyData → Prop} {f : PyData → Bool} {te : TE} (he : Ev te σ H v) (hd : Dq K p H v d) (hs : sm d) : Ev (tCall (spIsD K sm f) [] E (tCons te tNil)) σ H (.bl (f d)) :=
  fun H1 e Q k => he H1 e _ fun H2 e2 => ⟨p, v, d, rfl, Dq.ex (e.trans e2) _ _ hd, hs, fun H' e' => k H' (e2.trans e')⟩
/-- nothing asked -/
def Any (_ : PyData) : Prop := True
def spReq (K : PySem.W.Frag) (C : Addr) (f : PyData → Bool) : Sp := fun vs H Q E => ∃ (p : Addr) (v : V) (d : PyData), vs = [v] ∧ Dq K p H v d ∧ (f d = true → ∀ H', Ex H H' → Q .non H') ∧ (f d = false → Er C v H E)
/-- two fractions, or none -/
def spX (K : PySem.W.Frag) (C : Addr) (ok : Rat → Prop) (R : Rat → Rat → V → Hp → Prop) : Sp := fun vs H Q E => ∃ (p : Addr) (u v : V) (d e : PyData), vs = [u, v] ∧ Dq K p H u d ∧ Dq K p H v e ∧ Bd 100 (frQ d) ∧ Bd 100 (frQ e) ∧
  (frB d = false → Er C u H E) ∧ (frB d = true → frB e = false → Er C v H E) ∧ (frB d = true → frB e = true → ¬ ok (frQ e) → Er C v H E) ∧
  (frB d = true → frB e = true → ok (frQ e) → ∀ z H', Ex H H' → R (frQ d) (frQ e) z H' → Q z H')
end
section
variable {P : Program} {w : World} {K : PySem.W.Frag} {mg : Str → Option Value} {base : Heap}
end
section
variable {P : Program} {w : World} {K : PySem.W.Frag} {mg : Str → Option Value} {base : Heap}
theorem ok_is_whole (T : Txt K mg) : FnOk P w K mg base CX0 1 T.d_is_whole.a T.d_is_whole.fd ["value"] (spIsD K Any isWh) := by
  refine T.d_is_whole.F.ok sc_is_whole (fun vs H Q E h => ?_) (fun cdv A outer s H vs Q E hr h => ?_)
  · obtain ⟨p, v, d, rfl, _⟩ := h
    rfl
  · obtain ⟨p, v, d, rfl, hd, _, k⟩ := h
    refine ⟨_, (pss_one (ps_ret (pe_and (pe_callB call_isi (by rfl) T.n_isinstance (by decide +kernel) (pa_cons (pv 0) (pa_cons (pe_bltn (v := .ty "int") (by rfl) T.n_int (by decide +kernel) rfl) pa_nil))) (pe_one (pe_not (pe_callB call_isi (by rfl) T.n_isinstance (by decide +kernel) (pa_cons (pv 0) (pa_cons (pe_bltn (v := .ty "bool") (by rfl) T.n_bool (by decide +kernel) rfl) pa_nil)))))))), ?_⟩
    refine s_ret (ev_andV (ev_isi rfl hd (kit_int d)) fun _ => ev_notV (ev_isi rfl hd (kit_bool d))) fun H1 e => ?_
    rw [wh_eq]
    exact k H1 e
theorem ok_is_fraction (T : Txt K mg) : FnOk P w K mg base CX0 2 T.d_is_fraction.a T.d_is_fraction.fd ["value"] (spIsD K Any frB) := by
  refine T.d_is_fraction.F.ok sc_is_fraction (fun vs H Q E h => ?_) (fun cdv A outer s H vs Q E hr h => ?_)
  · obtain ⟨p, v, d, rfl, _⟩ := h
    rfl
  · obtain ⟨p, v, d, rfl, hd, _, k⟩ := h
    refine ⟨_, (pss_cons (ps_if (PW.pt (pw_or (pt_not (pt_val (pe_callB call_isi (by rfl) T.n_isinstance (by decide +kernel) (pa_cons (pv 0) (pa_cons (pe_bltn (v := .ty "tuple") (by rfl) T.n_tuple (by decide +kernel) rfl) pa_nil))))) (pw_or1 (pt_cmpR op_ne (pe_callB call_len_seq (by rfl) T.n_len (by decide +kernel) (pa_cons (pv 0) pa_nil)) pe_int (nomark _))))) (pss_one (ps_ret pe_bl)) pss_nil)
      (pss_cons (ps_asg (pv 0) (pg_tup (by rfl) (pgs_cons (pg_name (i := 1) sc_is_fraction.nd rfl (Or.inl rfl)) (pgs_cons (pg_name (i := 2) sc_is_fraction.nd rfl (Or.inl rfl)) pgs_nil))))
      (pss_cons (ps_if (PW.pt (pw_or (pt_not (pt_val (pe_call (ok_is_whole T) (hr.mono (by decide)) (by rfl) T.d_is_whole.g T.d_is_whole.F.kp T.d_is_whole.b .nil pass0 (pa_cons (pv 1) pa_nil)))) (pw_or (pt_not (pt_val (pe_call (ok_is_whole T) (hr.mono (by decide)) (by rfl) T.d_is_whole.g T.d_is_whole.F.kp T.d_is_whole.b .nil pass0 (pa_cons (pv 2) pa_nil)))) (pw_or1 (pt_cmpR op_le (pv 2) pe_int (nomark _)))))) (pss_one (ps_ret pe_bl)) pss_nil)
      (pss_one (ps_ret (pe_cmpR op_eq (pe_callBfun cr_gcd (by rfl) T.n_gcd (pa_cons (pv 1) (pa_cons (pv 2) pa_nil))) pe_int (nomark _))))))), ?_⟩
    by_cases ht : isTup d = true
    · cases hd with
      | @tup a xs ds hS hA =>
        by_cases h2 : xs.length = 2
        · have h2' := h2
          rw [hA.len] at h2'
          obtain ⟨x1, x2, rfl⟩ : ∃ x1 x2, xs = [x1, x2] := match xs, h2 with | [x1, x2], _ => ⟨x1, x2, rfl⟩
          obtain ⟨d1, d2, rfl⟩ : ∃ d1 d2, ds = [d1, d2] := match ds, h2' with | [d1, d2], _ => ⟨d1, d2, rfl⟩
          have hD : Dq K p H (.ref a) (.tuple [d1, d2]) := .tup hS hA
          obtain ⟨q1, q2⟩ : Dq K p H x1 d1 ∧ Dq K p H x2 d2 := by
            cases hA with
            | cons a b =>
              cases b with
              | cons b c => exact ⟨a, b⟩
          refine s_if (b := false) (et_is (et_or (et_not (et_B (ev_isi rfl hD (kit_tup _)))) fun _ => et_test (fun H1 e Q k => ⟨_, rfl, a, _, rfl, .inr (ex_t e hS), rfl, k H1 (Ex.refl H1)⟩)) rfl) (fun z => nomatch z) fun _ H1 e1 => ?_
          refine ⟨_, rfl, a, [x1, x2], rfl, ex_t e1 hS, rfl, _, _, rfl, _, _, rfl, rfl, ?_⟩
          have r1 := Dq.ex e1 _ _ q1
          have r2 := Dq.ex e1 _ _ q2
          have hlt : isWh d2 = true → x2 = .int (ival d2) := fun z => (r2.ival z).1
          refine s_if (b := !isWh d1 || (!isWh d2 || decide (ival d2 ≤ 0))) (et_or (et_not (et_B (ev_isD (ev_var rfl) r1 trivial))) fun _ => et_or (et_not (et_B (ev_isD (ev_var rfl) r2 trivial))) fun z => et_test (by
            have z' : isWh d2 = true := by simpa using z
            have hx := hlt z'
            subst hx
            exact ev_op (ev_var rfl) ev_c rv_I0)) (fun z H2 e2 => ?_) (fun z H2 e2 => ?_)
          · have e : frB (.tuple [d1, d2]) = false := by
              cases d1 with
              | int n =>
                cases d2 with
                | int m =>
                  have z' : decide (m ≤ 0) = true := z
                  have : ¬ 0 < m := by
                    have := of_decide_eq_true z'
                    omega
                  simp [frB, this]
                | _ => rfl
              | _ => rfl
            rw [e] at k
            exact k H2 (e1.trans e2)
          · have w1 : isWh d1 = true := by
              cases h : isWh d1 with
              | true => rfl
              | false =>
                rw [h] at z
                cases z
            have w2 : isWh d2 = true := by
              cases h : isWh d2 with
              | true => rfl
              | false =>
                rw [h, w1] at z
                cases z
            obtain ⟨g1, g2⟩ := r1.ival w1
            obtain ⟨g3, g4⟩ := r2.ival w2
            rw [w1, w2] at z
            have z' : ¬ ival d2 ≤ 0 := of_decide_eq_false (by simpa using z)
            generalize ival d1 = n at g1 g2
            generalize ival d2 = m at g3 g4 z'
            subst g1 g2 g3 g4
            refine ⟨_, rfl, _, rfl, n, m, rfl, rfl, ?_⟩
            have e : frB (.tuple [.int n, .int m]) = decide (V.int ((Nat.gcd n.natAbs m.natAbs : Nat) : Int) = V.int 1) := by
              simp only [frB]
              rw [decide_eq_true (by omega : 0 < m), Bool.true_and]
              rw [Bool.eq_iff_iff, decide_eq_true_iff, decide_eq_true_iff]
              constructor
              · intro h
                rw [h]
                rfl
              · intro h
                have := V.int.inj h
                omega
            rw [e] at k
            exact k H2 (e1.trans e2)
        · refine s_if (b := true) (et_is (et_or (et_not (et_B (ev_isi rfl (.tup hS hA) (kit_tup _)))) fun _ => et_test (fun H1 e Q k => ⟨_, rfl, a, _, rfl, .inr (ex_t e hS), rfl, k H1 (Ex.refl H1)⟩)) ?_) (fun _ H1 e1 => ?_) (fun z => nomatch z)
          · have : ¬ V.int (xs.length : Int) = V.int 2 := fun z => h2 (by
              have := V.int.inj z
              omega)
            simp [isTup, this]
          · have e : frB (.tuple ds) = false := by
              have := hA.len
              match ds, this with
              | [], _ => rfl
              | [_], _ => simp [frB]
              | [_, _], h => exact absurd h h2
              | _ :: _ :: _ :: _, _ => simp [frB]
            rw [e] at k
            exact k H1 e1
      | _ => cases ht
    · have e : frB d = false := by
        cases d <;> (first | rfl | exact absurd rfl ht)
      have ht' : isTup d = false := by simpa using ht
      refine s_if (b := true) (et_is (et_or (b := false) (et_not (et_B (ev_isi rfl hd (kit_tup d)))) fun z => ?_) ?_) (fun _ H1 e1 => ?_) (fun z => nomatch z)
      · rw [ht'] at z
        cases z
      · rw [ht']
        rfl
      · rw [e] at k
        exact k H1 e1
end
def posB (d : PyData) : Bool := frB d && decide (0 < (frQ d).num)
section
variable {K : PySem.W.Frag} {p : Addr} {H : Hp} {v : V} {d : PyData} {σ : L2.St} {i : Nat}
theorem Dq.seq {ds : List PyData} (h : Dq K p H v (.tuple ds)) : ∃ a xs, v = .ref a ∧ SqT K H a xs ∧ DqAll K p H xs ds := by
  cases h with
  | tup hS hA => exact ⟨_, _, rfl, hS, hA⟩
theorem ev_lenT {ds : List PyData} (hv : σ[i]? = some (some v)) (hd : Dq K p H v (.tuple ds)) : Ev (tCB (fun xs H_1 Q => ∃ p ys, xs = [V.ref p] ∧ (SqL K H_1 p ys ∨ SqT K H_1 p ys) ∧ Q (V.int ys.length) H_1) (tCons (tVar i) tNil)) σ H (.int (ds.length : Int)) := fun H1 e Q k => by
  obtain ⟨a, xs, rfl, hS, hA⟩ := hd.seq
  refine ⟨_, hv, a, xs, rfl, .inr (ex_t e hS), ?_⟩
  rw [hA.len]
  exact k H1 (Ex.refl H1)
theorem DqAll.get : ∀ {vs : List V} {ds : List PyData} {j : Nat} {dj : PyData}, DqAll K p H vs ds → ds[j]? = some dj → ∃ x, vs[j]? = some x ∧ Dq K p H x dj
  | _, _, j, dj, .nil, e => by simp at e
  | _, _, 0, dj, .cons h hs, e => by
    simp only [List.getElem?_cons_zero, Option.some.injEq] at e
    subst e
    exact ⟨_, rfl, h⟩
  | _, _, j + 1, dj, .cons h hs, e => by
    simp only [List.getElem?_cons_succ] at e ⊢
    exact DqAll.get hs e
/-- an item of a tuple -/
theorem ed_ix {ds : List PyData} {j : Nat} {dj : PyData} (hv : σ[i]? = some (some v)) (hd : Dq K p H v (.tuple ds)) (e : ds[j]? = some dj) : EvP (tOp (rIxT K) (tVar i) (tC (.int (j : Int)))) σ H (fun x H' => Dq K p H' x dj) := fun H1 e1 Q k => by
  obtain ⟨a, xs, rfl, hS, hA⟩ := hd.seq
  obtain ⟨x, hx, q⟩ := hA.get e
  exact ⟨_, hv, a, xs, j, x, rfl, rfl, ex_t e1 hS, atI_nat hx, k x H1 (Ex.refl _) (Dq.ex e1 _ _ q)⟩
theorem ev_isDp {E : XK} {sm : PyData → Prop} {f : PyData → Bool} {te : TE} (he : EvP te σ H fun x H' => Dq K p H' x d) (hs : sm d) : Ev (tCall (spIsD K sm f) [] E (tCons te tNil)) σ H (.bl (f d)) :=
  fun H1 e Q k => he H1 e _ fun x H2 e2 q => ⟨p, x, d, rfl, q, hs, fun H' e' => k H' (e2.trans e')⟩
end
section
variable {K : PySem.W.Frag} {p : Addr} {H : Hp} {v : V} {d : PyData} {σ : L2.St} {i : Nat} {te ta tb tc : TE} {x y w : V} {r r' : R2}
theorem ev_chain {a b : Bool} (ha : Ev ta σ H x) (hb : Ev tb σ H y) (hc : Ev tc σ H w) (h1 : ∀ H, RV r x y H (.bl a)) (h2 : ∀ H, RV r' y w H (.bl b)) : Ev (tChain r r' ta tb tc) σ H (.bl (a && b)) := fun H1 e Q k =>
  ha H1 e _ fun H2 e2 => hb H2 (e.trans e2) _ fun H3 e3 => h1 H3 H3 (Ex.refl _) _ fun H4 e4 => ⟨a, rfl, by
    cases a with
    | true =>
      rw [if_pos rfl]
      exact hc H4 (((e.trans e2).trans e3).trans e4) _ fun H5 e5 => h2 H5 H5 (Ex.refl _) _ fun H6 e6 => k H6 ((((e2.trans e3).trans e4).trans e5).trans e6)
    | false =>
      rw [if_neg (by decide)]
      exact k H4 ((e2.trans e3).trans e4)⟩
mutual
theorem Dq.dp : ∀ (d : PyData) (v : V), d.hasDict = false → Dq K p H v d → Dp K H v d
  | _, _, _, .non => .non
  | _, _, _, .bl b => .bl b
  | _, _, _, .int i => .int i
  | _, _, _, .str x => .str x
  | _, _, h0, .lst n m h hs => .lst (SqL.of h) (DqAll.dp _ _ (by simpa [PyData.hasDict] using h0) hs)
  | _, _, h0, .tup h hs => .tup h (DqAll.dp _ _ (by simpa [PyData.hasDict] using h0) hs)
  | _, _, h0, .emp h => by simp [PyData.hasDict] at h0
theorem DqAll.dp : ∀ (ds : List PyData) (vs : List V), PyData.hasDictAll ds = false → DqAll K p H vs ds → DpAll K H vs ds
  | _, _, _, .nil => .nil
  | _, _, h0, .cons h hs => by
    simp only [PyData.hasDictAll, Bool.or_eq_false_iff] at h0
    exact .cons (Dq.dp _ _ h0.1 h) (DqAll.dp _ _ h0.2 hs)
end
end
/-! ### tests that come out false -/
section
variable {K : PySem.W.Frag} {σ : L2.St} {H : Hp} {D : Ends} {t : TT} {tu tw : TS}
theorem yes_of {Q : Bool → Hp → Prop} (h : Q true H) : tYes σ H Q := h
theorem s_skip (h : EvT t σ H false) (k : ∀ H1, Ex H H1 → D.nx σ H1) : tIfS t tu tNext D σ H := s_if h (fun z => nomatch z) fun _ H1 e => k H1 e
theorem dec_ne {x y : Int} (h : x = y) : (!decide (V.int x = V.int y)) = false := by subst h; simp
theorem dec_neQ {x y : Rat} (h : x = y) : (!decide (x = y)) = false := by subst h; simp
theorem or_ff {a b : Bool} (h : a = false) (h' : b = false) : (a || b) = false := by subst h h'; rfl
/-- the test «two fractions differ» of two that are the same -/
theorem et_neF {ta tb : TE} {b c : Nat} {q r : Rat} (ha : EvP ta σ H (Fr K b q)) (hb : EvP tb σ H (Fr K c r)) (h : q = r) : EvT (tTest (tOp (rNeD K) ta tb)) σ H false := et_is (et_test (ev_neD ha hb)) (dec_neQ h)
theorem et_orF {t u : TT} (h1 : EvT t σ H false) (h2 : EvT u σ H false) : EvT (tOr t u) σ H false := et_is (et_or h1 fun _ => h2) rfl
/-- a written pair -/
theorem ep_lit {x y : Int} {q : Rat} {b : Nat} (e1 : x = q.num) (e2 : y = (q.den : Int)) (bd : Bd b q) : EvP (tTup (tCons (tC (.int x)) (tCons (tC (.int y)) tNil))) σ H (Fr K b q) := ep_tup ev_c ev_c e1 e2 bd
theorem ep_01 : EvP (tTup (tCons (tC (.int 0)) (tCons (tC (.int 1)) tNil))) σ H (Fr K 1 0) := ep_lit rfl rfl ⟨by decide, by decide⟩
end
/-! ### data that is drawn -/
section
variable {K : PySem.W.Frag} {p : Addr} {σ : L2.St} {H H' : Hp} {te ta tb : TE} {v : V} {d : PyData} {ds : List PyData} {tt : TT}
def EvD (K : PySem.W.Frag) (p : Addr) (te : TE) (σ : L2.St) (H : Hp) (d : PyData) : Prop := EvP te σ H fun v H => Dq K p H v d
def EvDs (K : PySem.W.Frag) (p : Addr) (ta : TA) (σ : L2.St) (H : Hp) (ds : List PyData) : Prop := ∀ H1, Ex H H1 → ∀ Q : List V → Hp → Prop, (∀ vs H2, Ex H1 H2 → DqAll K p H2 vs ds → Q vs H2) → ta σ H1 Q
theorem ed_ev (h : Ev te σ H v) (hd : ∀ H, Dq K p H v d) : EvD K p te σ H d := fun H1 e Q k => h H1 e Q fun H2 e2 => k v H2 e2 (hd H2)
theorem ed_var {i : Nat} (h : σ[i]? = some (some v)) (hd : Dq K p H v d) : EvD K p (tVar i) σ H d := fun H1 e _ k => ⟨v, h, k v H1 (Ex.refl H1) (Dq.ex e _ _ hd)⟩
theorem ed_int {n : Int} : EvD K p (tC (.int n)) σ H (.int n) := ed_ev ev_c fun _ => .int n
theorem ed_neg {n : Int} : EvD K p (tUn (rU fun i => .int (-i)) (tC (.int n))) σ H (.int (-n)) := ed_ev (ev_neg ev_c) fun _ => .int _
theorem ed_bool {b : Bool} : EvD K p (tC (.bl b)) σ H (.bool b) := ed_ev ev_c fun _ => .bl b
theorem ed_none : EvD K p (tC .non) σ H .none := ed_ev ev_c fun _ => .non
theorem ed_str {x : Str} : EvD K p (tC (.str x)) σ H (.str x) := ed_ev ev_c fun _ => .str x
theorem ed_fr {b : Nat} {q : Rat} (h : EvP te σ H (Fr K b q)) : EvD K p te σ H (frd q) := fun H1 e Q k => h H1 e Q fun v H2 e2 f => k v H2 e2 f.dq
theorem eds_nil : EvDs K p tNil σ H [] := fun H1 e Q k => k [] H1 (Ex.refl H1) .nil
theorem eds_cons {tr : TA} (h : EvD K p te σ H d) (hs : EvDs K p tr σ H ds) : EvDs K p (tCons te tr) σ H (d :: ds) := fun H1 e Q k =>
  h H1 e _ fun v H2 e2 q => hs H2 (e.trans e2) _ fun vs H3 e3 qs => k _ H3 (e2.trans e3) (.cons (Dq.ex e3 _ _ q) qs)
theorem ed_tup {ta : TA} (h : EvDs K p ta σ H ds) (hl : ds.length ≤ 1000) : EvD K p (tTup ta) σ H (.tuple ds) := fun H1 e Q k =>
  h H1 e _ fun vs H2 e2 qs => ⟨Nat.le_of_lt (small1000 (by rw [qs.len]; exact hl)), fun a fa => k _ _ (e2.trans (Ex.new fa)) (.tup (SqT.of upd_same) (DqAll.ex (Ex.new fa) _ _ qs))⟩
theorem ed_lst {ta : TA} {o : HO} (hp : H p = some o) (h : EvDs K p ta σ H ds) (hl : ds.length ≤ 1000) : EvD K p (tLstN ta) σ H (.list ds) := fun H1 e Q k =>
  h H1 e _ fun vs H2 e2 qs => ⟨Nat.le_of_lt (small1000 (by rw [qs.len]; exact hl)), fun a fa fm => k _ _ (e2.trans (Ex.new fa)) (.lst (ne_of_none (e2 _ _ (e _ _ hp)) fa).symm fm upd_same (DqAll.ex (Ex.new fa) _ _ qs))⟩
end
def tI (n : Int) : TE := tC (.int n)
def tN (n : Int) : TE := tUn (rU fun i => .int (-i)) (tC (.int n))
def tP (a b : TE) : TE := tTup (tCons a (tCons b tNil))
section
variable {K : PySem.W.Frag} {p : Addr} {σ : L2.St} {H : Hp} {a b : TE} {d e : PyData} {v : V} {q r : Rat}
theorem ed_I {n : Int} : EvD K p (tI n) σ H (.int n) := ed_int
theorem ed_N {n : Int} : EvD K p (tN n) σ H (.int (-n)) := ed_neg
theorem ed_P (h : EvD K p a σ H d) (g : EvD K p b σ H e) : EvD K p (tP a b) σ H (.tuple [d, e]) := ed_tup (eds_cons h (eds_cons g eds_nil)) (by show 2 ≤ 1000; decide)
def LstD (K : PySem.W.Frag) (p : Addr) (ds : List PyData) (v : V) (H : Hp) : Prop := ∃ (l : Addr) (vs : List V), v = .ref l ∧ l ≠ p ∧ l ≠ sysModules ∧ H l = some (.lst vs) ∧ DqAll K p H vs ds
def LstD0 (K : PySem.W.Frag) (p : Addr) (ds : List PyData) (v : V) (H : Hp) : Prop := ∃ (l : Addr) (vs : List V), v = .ref l ∧ l ≠ p ∧ H l = some (.lst vs) ∧ DqAll K p H vs ds
theorem LstD.to0 {ds : List PyData} (h : LstD K p ds v H) : LstD0 K p ds v H := by
  obtain ⟨l, vs, rfl, n, m, h, q⟩ := h
  exact ⟨l, vs, rfl, n, h, q⟩
theorem el_lst {tm : TA} {ds : List PyData} {o : HO} (hh : H p = some o) (hm : EvDs K p tm σ H ds) (hl : ds.length ≤ 900) : EvP (tLstN tm) σ H (LstD K p ds) := fun H1 e Q k =>
  hm H1 e _ fun vs H2 e2 qs => ⟨Nat.le_of_lt (small1000 (by rw [qs.len]; omega)), fun l fl fm => k _ _ (e2.trans (Ex.new fl)) ⟨l, vs, rfl, (ne_of_none (e2 _ _ (e _ _ hh)) fl).symm, fm, upd_same, DqAll.ex (Ex.new fl) _ _ qs⟩⟩
end
section
variable {K : PySem.W.Frag} {T : Addr} {H H' : Hp}
theorem tab_ne (ht : GxR.TabG H T) {a : Addr} {o : HO} (h : H a = some o) (ho : ∀ ps, o ≠ .tbl ps) : a ≠ T := by
  rintro rfl
  obtain ⟨ps, e, _⟩ := ht
  rw [h] at e
  exact ho ps (Option.some.inj e)
theorem tb_l {a : Addr} {xs : List V} (ht : GxR.TabG H T) (e : ExB T H H') (h : SqL K H a xs) : SqL K H' a xs := by
  rcases h with (h | ⟨o, h⟩) | h
  · exact .inl (.inl (e a _ (tab_ne ht h fun _ z => nomatch z) h))
  · exact .inl (.inr ⟨o, e a _ (tab_ne ht h fun _ z => nomatch z) h⟩)
  · exact .inr h
theorem tb_t {a : Addr} {xs : List V} (ht : GxR.TabG H T) (e : ExB T H H') (h : SqT K H a xs) : SqT K H' a xs := by
  rcases h with (h | ⟨o, h⟩) | h
  · exact .inl (.inl (e a _ (tab_ne ht h fun _ z => nomatch z) h))
  · exact .inl (.inr ⟨o, e a _ (tab_ne ht h fun _ z => nomatch z) h⟩)
  · exact .inr h
theorem tb_f {b : Nat} {q : Rat} {v : V} (ht : GxR.TabG H T) (e : ExB T H H') (h : Fr K b q v H) : Fr K b q v H' := by
  obtain ⟨a, rfl, h, x⟩ := h
  exact ⟨a, rfl, tb_t ht e h, x⟩
theorem tab_ex (ht : GxR.TabG H T) (e : Ex H H') : GxR.TabG H' T := by
  obtain ⟨ps, h1, h2⟩ := ht
  exact ⟨ps, e _ _ h1, h2⟩
end
section
variable {K : PySem.W.Frag} {p T : Addr} {H H' : Hp}
mutual
theorem Dq.tb (ht : GxR.TabG H T) (e : ExB T H H') : ∀ (d : PyData) (v : V), Dq K p H v d → Dq K p H' v d
  | _, _, .non => .non
  | _, _, .bl b => .bl b
  | _, _, .int i => .int i
  | _, _, .str x => .str x
  | _, _, .lst n m h hs => .lst n m (e _ _ (tab_ne ht h fun _ z => nomatch z) h) (DqAll.tb ht e _ _ hs)
  | _, _, .tup h hs => .tup (tb_t ht e h) (DqAll.tb ht e _ _ hs)
  | _, _, .emp h => .emp (e _ _ (tab_ne ht h fun _ z => nomatch z) h)
theorem DqAll.tb (ht : GxR.TabG H T) (e : ExB T H H') : ∀ (ds : List PyData) (vs : List V), DqAll K p H vs ds → DqAll K p H' vs ds
  | _, _, .nil => .nil
  | _, _, .cons h hs => .cons (Dq.tb ht e _ _ h) (DqAll.tb ht e _ _ hs)
end
end
section
variable {P : Program} {w : World} {K : PySem.W.Frag} {mg : Str → Option Value} {base : Heap}
/-- a def by its body, its code object known -/
theorem okC {x qual : Str} {st : Stmt} {f c : Addr} {fd : FuncData} {N ps : List Str} {k : Nat} {sp : Sp} (F : Fun K x qual st f fd) (hc : fd.code = .ref c) (S : FnScope N ps (defScope st)) (len : ∀ vs H Q E, sp vs H Q E → vs.length = ps.length)
    (body : ∀ (A : Around) (outer : List Env) (s : Shared) (H : Hp) (vs : List V) (Q : VK) (E : XK), Room k (A.deeper (envOfC qual (defScope st) s.heap.objs.size f (.ref c))) → sp vs H Q E →
      ∃ t, PSs (cxOf CX0 P w K mg base N qual (defScope st) f (.ref c) A outer s H E).nox (defBody st) t ∧ t { nx := fun _ H' => Q .non H', rt := Q } (start N vs) H) : FnOk P w K mg base CX0 (k + 1) f fd ps sp := by
  obtain ⟨oc, od, kV, doc, pm, an, cdv, ct, osl, rfl, lk, hcd⟩ := F.ex
  obtain rfl : cdv = .ref c := hc
  apply fn_of lk hcd S len
  intro A outer s H vs Q E hr hsp
  obtain ⟨t, h, q⟩ := body A outer s H vs Q E hr hsp
  exact ⟨t, h.nox, q⟩
end
/-! ### data without lists -/
def strS (x : Str) : Bool := decide (x = "end" ∨ x = "all" ∨ x = "step")
mutual
/-- no list in it, small ints, the three names -/
def noL : PyData → Bool
  | .list _ => false
  | .tuple xs => noLA xs
  | .dict _ => false
  | .int i => decide (i.natAbs < 2 ^ 64)
  | .str x => strS x
  | _ => true
def noLA : List PyData → Bool
  | [] => true
  | x :: xs => noL x && noLA xs
end
section
variable {K : PySem.W.Frag} {p p' q : Addr} {H H' : Hp}
mutual
/-- without lists: nothing that happens to a list touches it -/
theorem Dq.nl {xs : List V} (hp : H q = some (.lst xs)) (e : ExB q H H') : ∀ (d : PyData) (v : V), noL d = true → Dq K p H v d → Dq K p' H' v d
  | _, _, _, .non => .non
  | _, _, _, .bl b => .bl b
  | _, _, _, .int i => .int i
  | _, _, _, .str x => .str x
  | _, _, s, .tup h hs => .tup (tup_lst hp e h) (DqAll.nl hp e _ _ (by simpa [noL] using s) hs)
theorem DqAll.nl {xs : List V} (hp : H q = some (.lst xs)) (e : ExB q H H') : ∀ (ds : List PyData) (vs : List V), noLA ds = true → DqAll K p H vs ds → DqAll K p' H' vs ds
  | _, _, _, .nil => .nil
  | _, _, s, .cons h hs => by
    simp only [noLA, Bool.and_eq_true] at s
    exact .cons (Dq.nl hp e _ _ s.1 h) (DqAll.nl hp e _ _ s.2 hs)
end
end
theorem noLA_app : ∀ (xs ys : List PyData), noLA (xs ++ ys) = (noLA xs && noLA ys)
  | [], ys => by simp [noLA]
  | x :: xs, ys => by
    rw [List.cons_append]
    simp only [noLA]
    rw [noLA_app xs ys, Bool.and_assoc]
/-! ### forests, as data -/
structure Tk where
  par : Option Nat
  pay : PyData
  fac : PyData
def parD : Option Nat → PyData
  | none => .none
  | some n => .int (n : Nat)
def tkD (t : Tk) : PyData := .tuple [parD t.par, t.pay, t.fac]
def fsD (fs : List Tk) : PyData := .tuple (fs.map tkD)
def posZ (d : PyData) : Bool := frB d && decide (0 ≤ (frQ d).num)
structure TkOk (i : Nat) (t : Tk) : Prop where
  lt : ∀ q, t.par = some q → q < i
  pay : frB t.pay = true
  fac : posZ t.fac = true
  nlp : noL t.pay = true
  nlf : noL t.fac = true
structure FsOk (fs : List Tk) : Prop where
  one : 1 ≤ fs.length
  most : fs.length ≤ 8
  ok : ∀ i t, fs[i]? = some t → TkOk i t
theorem walk_enumT {K : PySem.W.Frag} {a : Addr} {xs : List V} : Walk (IteT K a) xs.length (fun H => SqT K H a xs) (YPair (fun i => some (.int (i : Nat))) (fun i => xs[i]?)) := by
  refine ⟨fun i _ hi q => ⟨xs, xs[i], q, by simp [hi]⟩, fun _ q => ⟨xs, q, Nat.le_refl _⟩, fun i H v H' _ q y => ?_⟩
  obtain ⟨T, x, h1, h2, h3, h4⟩ := y
  exact ⟨T, .int (i : Nat), x, h1, h2, h3, rfl, h4 xs q⟩
theorem DqAll.map_get {K : PySem.W.Frag} {p : Addr} {H : Hp} {xs : List V} {fs : List Tk} {i : Nat} {x : V} (h : DqAll K p H xs (fs.map tkD)) (e : xs[i]? = some x) : ∃ t, fs[i]? = some t ∧ Dq K p H x (tkD t) := by
  have il : i < xs.length := (List.getElem?_eq_some_iff.mp e).1
  have l := h.len
  rw [List.length_map] at l
  have e2 : fs[i]? = some fs[i] := List.getElem?_eq_getElem (by omega)
  obtain ⟨x', h1, h2⟩ := h.get (j := i) (dj := tkD fs[i]) (by rw [List.getElem?_map, e2]; rfl)
  rw [e] at h1
  cases h1
  exact ⟨_, e2, h2⟩
/-- the three of a task -/
theorem Dq.tk {K : PySem.W.Frag} {p : Addr} {H : Hp} {v : V} {t : Tk} (h : Dq K p H v (tkD t)) : ∃ a x y z, v = .ref a ∧ SqT K H a [x, y, z] ∧ Dq K p H x (parD t.par) ∧ Dq K p H y t.pay ∧ Dq K p H z t.fac := by
  obtain ⟨a, xs, rfl, hS, hA⟩ := h.seq
  cases hA with
  | cons h1 r =>
    cases r with
    | cons h2 r =>
      cases r with
      | cons h3 r =>
        cases r
        exact ⟨a, _, _, _, rfl, hS, h1, h2, h3⟩
def parV : Option Nat → V
  | none => .non
  | some n => .int (n : Nat)
theorem par_V {K : PySem.W.Frag} {p : Addr} {H : Hp} {v : V} {o : Option Nat} (h : Dq K p H v (parD o)) : v = parV o := by
  cases o with
  | none => cases h; rfl
  | some n => cases h; rfl
section
variable {P : Program} {w : World} {K : PySem.W.Frag} {mg : Str → Option Value} {base : Heap}
def spNB : Sp := fun vs H Q _ => ∃ n c : Int, vs = [.int n, .int c] ∧ ∀ H', Ex H H' → Q (.bl (decide (0 ≤ n) && decide (n < c))) H'
theorem ok_is_number_below (T : Txt K mg) : FnOk P w K mg base CX0 2 T.d_is_number_below.a T.d_is_number_below.fd ["value", "count"] spNB := by
  refine T.d_is_number_below.F.ok sc_is_number_below (fun vs H Q E h => ?_) (fun cdv A outer s H vs Q E hr h => ?_)
  · obtain ⟨n, c, rfl, _⟩ := h
    rfl
  · obtain ⟨n, c, rfl, k⟩ := h
    refine ⟨_, (pss_one (ps_ret (pe_and (pe_call (ok_is_whole T) (hr.mono (by decide)) (by rfl) T.d_is_whole.g T.d_is_whole.F.kp T.d_is_whole.b .nil pass0 (pa_cons (pv 0) pa_nil)) (pe_one (pe_chain op_le op_lt pe_int (pv 0) (pv 1)))))), ?_⟩
    exact s_ret (ev_is (ev_andV (a := true) (b := decide (0 ≤ n) && decide (n < c)) (ev_isD (p := 0) (K := K) (ev_var rfl) (.int n) trivial) fun _ => ev_chain ev_c (ev_var rfl) (ev_var rfl) (fun H => rv_I0) fun H => rv_I0) (by rw [Bool.true_and])) fun H1 e => k H1 e
theorem ok_is_from_zero (T : Txt K mg) : FnOk P w K mg base CX0 3 T.d_is_from_zero.a T.d_is_from_zero.fd ["value"] (spIsD K Any posZ) := by
  refine T.d_is_from_zero.F.ok sc_is_from_zero (fun vs H Q E h => ?_) (fun cdv A outer s H vs Q E hr h => ?_)
  · obtain ⟨p, v, d, rfl, _⟩ := h
    rfl
  · obtain ⟨p, v, d, rfl, hd, _, k⟩ := h
    refine ⟨_, (pss_one (ps_ret (pe_and (pe_call (ok_is_fraction T) (hr.mono (by decide)) (by rfl) T.d_is_fraction.g T.d_is_fraction.F.kp T.d_is_fraction.b .nil pass0 (pa_cons (pv 0) pa_nil)) (pe_one (pe_cmpR op_ge (pe_ix ix_tup (pv 0) pe_int (fun _ _ => rfl)) pe_int (nomark _)))))), ?_⟩
    refine s_ret (ev_andV (b := decide (0 ≤ (frQ d).num)) (ev_isD (ev_var rfl) hd trivial) fun hb => ?_) fun H1 e => k H1 e
    have hq := frB_iff hb
    have hd' : Dq K p H v (.tuple [.int (frQ d).num, .int ((frQ d).den : Int)]) := by
      rw [hq] at hd
      exact hd
    intro H1 e1 Q kk
    refine ed_ix (K := K) (p := p) (j := 0) rfl hd' rfl H1 e1 _ fun x H2 e2 q => ?_
    cases q with
    | int n => exact ⟨_, _, rfl, rfl, kk H2 e2⟩
def spTask (K : PySem.W.Frag) : Sp := fun vs H Q _ => ∃ (p : Addr) (v : V) (i : Nat) (t : Tk), vs = [v, .int (i : Nat)] ∧ Dq K p H v (tkD t) ∧ TkOk i t ∧ ∀ H', Ex H H' → Q (.bl true) H'
theorem ok_is_task (T : Txt K mg) : FnOk P w K mg base CX0 4 T.d_is_task.a T.d_is_task.fd ["value", "number"] (spTask K) := by
  refine T.d_is_task.F.ok sc_is_task (fun vs H Q E h => ?_) (fun cdv A outer s H vs Q E hr h => ?_)
  · obtain ⟨p, v, i, t, rfl, _⟩ := h
    rfl
  · obtain ⟨p, v, i, t, rfl, hd, ok, k⟩ := h
    refine ⟨_, (pss_cons (ps_if (PW.pt (pw_or (pt_not (pt_val (pe_callB call_isi (by rfl) T.n_isinstance (by decide +kernel) (pa_cons (pv 0) (pa_cons (pe_bltn (v := .ty "tuple") (by rfl) T.n_tuple (by decide +kernel) rfl) pa_nil))))) (pw_or1 (pt_cmpR op_ne (pe_callB call_len_seq (by rfl) T.n_len (by decide +kernel) (pa_cons (pv 0) pa_nil)) pe_int (nomark _))))) (pss_one (ps_ret pe_bl)) pss_nil)
      (pss_cons (ps_asg (pv 0) (pg_tup (by rfl) (pgs_cons (pg_name (i := 2) sc_is_task.nd rfl (Or.inl rfl)) (pgs_cons (pg_name (i := 3) sc_is_task.nd rfl (Or.inl rfl)) (pgs_cons (pg_name (i := 4) sc_is_task.nd rfl (Or.inl rfl)) pgs_nil)))))
      (pss_cons (ps_if (PW.pt (pw_and (pt_cmpR op_notN (pv 2) pe_non (nomark _)) (pw_and1 (pt_not (pt_val (pe_call (ok_is_number_below T) (hr.mono (by decide)) (by rfl) T.d_is_number_below.g T.d_is_number_below.F.kp T.d_is_number_below.b .nil pass0 (pa_cons (pv 2) (pa_cons (pv 1) pa_nil)))))))) (pss_one (ps_ret pe_bl)) pss_nil)
      (pss_one (ps_ret (pe_and (pe_call (ok_is_fraction T) (hr.mono (by decide)) (by rfl) T.d_is_fraction.g T.d_is_fraction.F.kp T.d_is_fraction.b .nil pass0 (pa_cons (pv 3) pa_nil)) (pe_one (pe_call (ok_is_from_zero T) (hr.mono (by decide)) (by rfl) T.d_is_from_zero.g T.d_is_from_zero.F.kp T.d_is_from_zero.b .nil pass0 (pa_cons (pv 4) pa_nil))))))))), ?_⟩
    refine s_if (b := false) (et_is (et_or (et_is (et_not (et_B (ev_isi (b := true) rfl hd rfl))) rfl) fun _ => et_is (et_test (ev_op (ev_lenT rfl hd) ev_c (rv_ne rfl))) rfl) rfl) (fun z => nomatch z) fun _ H1 e1 => ?_
    obtain ⟨a, x, y, z, rfl, hS, hx, hy, hz⟩ := (Dq.ex e1 _ _ hd).tk
    refine n_next ?_
    dsimp only
    refine n_seq ?_
    refine ⟨_, rfl, a, [x, y, z], rfl, hS, rfl, _, _, rfl, _, _, rfl, _, _, rfl, rfl, ?_⟩
    dsimp only
    have px := par_V hx
    have fin : ∀ {G : Hp}, Ex H1 G → ∀ {σ : L2.St}, σ[3]? = some (some y) → σ[4]? = some (some z) → tRet (tAndV (tCall (spIsD K Any frB) [] E0 (tCons (tVar 3) tNil)) (tCall (spIsD K Any posZ) [] E0 (tCons (tVar 4) tNil))) { nx := fun _ H' => Q .non H', rt := Q } σ G := fun {G} e {σ} h3 h4 => by
      refine s_ret (v := .bl true) (ev_is (ev_andV (ev_isD (ev_var h3) (Dq.ex e _ _ hy) trivial) fun _ => ev_isD (ev_var h4) (Dq.ex e _ _ hz) trivial) ?_) fun H2 e2 => k H2 ((e1.trans e).trans e2)
      rw [ok.pay, ok.fac]
      rfl
    cases hp : t.par with
    | none =>
      rw [hp] at px
      subst px
      refine ⟨_, rfl, rfl, _, rfl, ?_⟩
      refine iteF ?_
      exact fin (Ex.refl _) rfl rfl
    | some n =>
      rw [hp] at px
      subst px
      have lt := ok.lt n hp
      refine ⟨_, rfl, rfl, _, rfl, ?_⟩
      refine iteT ?_
      refine ⟨_, rfl, _, rfl, _, _, rfl, fun H2 e2 => ⟨_, rfl, ?_⟩⟩
      rw [decide_eq_true (by omega : (0 : Int) ≤ (n : Nat)), decide_eq_true (by omega : ((n : Nat) : Int) < (i : Nat))]
      refine iteF ?_
      exact fin e2 rfl rfl
end
/-! ### is_forest, require_forest, children_of -/
theorem Tabd.exb {T : Addr} {H H' : Hp} (h : GxR.Tabbed T H H') : ExB T H H' := fun b o n e => by
  rw [h.2 b n]
  exact e
theorem rd_tasks {K : PySem.W.Frag} {p a : Addr} {xs : List V} {fs : List Tk} {E : XK} {Q : Bool → Hp → Prop} (ok : FsOk fs) : ∀ (m i : Nat) (H : Hp), i + m = xs.length → SqT K H a xs → DqAll K p H xs (fs.map tkD) → (∀ H', Ex H H' → Q true H') →
    rdAllI (gTup K 2 (gCons (gName 1) (gCons (gName 2) gNil))) (tCall (spTask K) [] E (tCons (tVar 2) (tCons (tVar 1) tNil))) (IteT K a) 3 m i H Q
  | 0, i, H, e, hS, _, k => ⟨⟨xs, hS, by omega⟩, k H (Ex.refl H)⟩
  | m + 1, i, H, e, hS, hA, k => by
    have il : i < xs.length := by omega
    have ei := List.getElem?_eq_getElem il
    refine ⟨⟨xs, _, hS, ei⟩, ?_⟩
    rintro x H1 ⟨T0, y, rfl, hT, rfl, hy⟩ σ hl hz
    have hy' := hy xs hS
    obtain ⟨t, ht, qt⟩ := hA.map_get hy'
    match σ, hl, hz with
    | [s0, s1, s2], _, hz =>
      simp only [List.getElem?_cons_zero, Option.some.injEq] at hz
      subst hz
      have x1 := Ex.new (o := .tup [.int (i : Nat), y]) hT
      refine ⟨T0, _, rfl, SqT.of upd_same, rfl, _, _, rfl, _, _, rfl, rfl, ?_⟩
      refine ⟨rfl, rfl, y, rfl, _, rfl, p, y, i, t, rfl, Dq.ex x1 _ _ qt, ok.ok i t ht, fun H2 e2 => ⟨true, rfl, fun _ => ?_, fun z => nomatch z⟩⟩
      have x2 := x1.trans e2
      exact rd_tasks ok m (i + 1) H2 (by omega) (ex_t x2 hS) (DqAll.ex x2 _ _ hA) fun H' e' => k H' (x2.trans e')
def hasPar (fs : List Tk) (o : Option Nat) (i : Nat) : Bool := decide (fs[i]?.map Tk.par = some o)
def kidsT (fs : List Tk) (o : Option Nat) (n : Nat) : List Nat := (List.range n).filter (hasPar fs o)
def kidsN (fs : List Tk) (o : Option Nat) : List Nat := kidsT fs o fs.length
def intsV (ns : List Nat) : List V := ns.map fun (n : Nat) => V.int n
theorem kidsT_succ (fs : List Tk) (o : Option Nat) (n : Nat) : kidsT fs o (n + 1) = kidsT fs o n ++ (if hasPar fs o n = true then [n] else []) := by
  unfold kidsT
  rw [List.range_succ, List.filter_append]
  congr 1
  by_cases h : hasPar fs o n = true
  · rw [if_pos h]; simp [h]
  · rw [if_neg h]; simp [h]
theorem kidsT_len (fs : List Tk) (o : Option Nat) (n : Nat) : (kidsT fs o n).length ≤ n := by
  unfold kidsT
  have := List.length_filter_le (hasPar fs o) (List.range n)
  rwa [List.length_range] at this
theorem parV_eq (a b : Option Nat) : decide (parV a = parV b) = decide (a = b) := by
  rw [Bool.eq_iff_iff, decide_eq_true_iff, decide_eq_true_iff]
  constructor
  · intro h
    match a, b, h with
    | none, none, _ => rfl
    | some n, some m, h =>
      have := V.int.inj h
      congr 1
      omega
    | none, some _, h => cases h
    | some _, none, h => cases h
  · rintro rfl
    rfl
theorem parV_scal (a b : Option Nat) : scal (parV a) (parV b) = true := by cases a <;> cases b <;> rfl
section
variable {P : Program} {w : World} {K : PySem.W.Frag} {mg : Str → Option Value} {base : Heap}
def spForest (K : PySem.W.Frag) (T : Addr) (r : V) : Sp := fun vs H Q _ => ∃ (p : Addr) (v : V) (fs : List Tk), vs = [v] ∧ Dq K p H v (fsD fs) ∧ FsOk fs ∧ GxR.TabG H T ∧ ∀ H', ExB T H H' → GxR.TabG H' T → Q r H'
theorem ok_is_forest (T : Txt K mg) (tb : GxR.TabB base mg T.c_is_forest T.P_is_forest) : FnOk P w K mg base CX0 6 T.d_is_forest.a T.d_is_forest.fd ["value"] (spForest K T.P_is_forest (.bl true)) := by
  refine okC T.d_is_forest.F T.h_is_forest sc_is_forest (fun vs H Q E h => ?_) (fun A outer s H vs Q E hr h => ?_)
  · obtain ⟨p, v, fs, rfl, _⟩ := h
    rfl
  · obtain ⟨p, v, fs, rfl, hd, ok, hT, k⟩ := h
    refine ⟨_, (pss_cons (ps_if (PW.pt (pw_or (pt_not (pt_val (pe_callB call_isi (by rfl) T.n_isinstance (by decide +kernel) (pa_cons (pv 0) (pa_cons (pe_bltn (v := .ty "tuple") (by rfl) T.n_tuple (by decide +kernel) rfl) pa_nil))))) (pw_or1 (pt_not (pt_chain op_le op_le pe_int (pe_callB call_len_seq (by rfl) T.n_len (by decide +kernel) (pa_cons (pv 0) pa_nil)) (pe_glob (v := .int 8) rfl T.c_MOST_TASKS ⟨_, rfl⟩)))))) (pss_one (ps_ret pe_bl)) pss_nil)
      (pss_one (ps_ret (pe_allI (xs := ["number", "entry"]) hr (by rfl) T.n_all tb rfl ⟨rfl, rfl, by decide, rfl, by decide⟩ (pi_enumT (by rfl) T.n_enumerate (pa_cons (pv 0) pa_nil)) (fun _ _ _ _ _ ec => pg_two ec (by decide +kernel) (by decide +kernel) (by decide +kernel)) (fun _ _ _ _ _ _ hr => (pe_call (ok_is_task T) (hr.mono (by decide)) (by rfl) T.d_is_task.g T.d_is_task.F.kp T.d_is_task.b .nil pass0 (pa_cons (pv 2) (pa_cons (pv 1) pa_nil)))) (fun _ => rfl))))), ?_⟩
    have l1 := ok.one
    have l8 := ok.most
    have ll : (fs.map tkD).length = fs.length := List.length_map ..
    have lenB : Ev (tChain (rI0 fun i j => .bl (decide (i ≤ j))) (rI0 fun i j => .bl (decide (i ≤ j))) (tC (.int 1)) (tCB (fun xs H_1 Q => ∃ p ys, xs = [V.ref p] ∧ (SqL K H_1 p ys ∨ SqT K H_1 p ys) ∧ Q (V.int ys.length) H_1) (tCons (tVar 0) tNil)) (tC (.int 8))) [some v] H (.bl true) := by
      refine ev_is (ev_chain (a := true) (b := true) ev_c (ev_lenT rfl hd) ev_c (fun H => ?_) fun H => ?_) rfl
      · have := rv_I0 (H := H) (g := fun i j => .bl (decide (i ≤ j))) (i := 1) (j := ((fs.map tkD).length : Int))
        rw [decide_eq_true (by rw [ll]; omega)] at this
        exact this
      · have := rv_I0 (H := H) (g := fun i j => .bl (decide (i ≤ j))) (i := ((fs.map tkD).length : Int)) (j := 8)
        rw [decide_eq_true (by rw [ll]; omega)] at this
        exact this
    refine s_if (b := false) (et_is (et_or (et_is (et_not (et_B (ev_isi (b := true) rfl hd rfl))) rfl) fun _ => et_is (et_not (et_test lenB)) rfl) rfl) (fun z => nomatch z) fun _ H1 e1 => ?_
    obtain ⟨a, xs, rfl, hS, hA⟩ := (Dq.ex e1 _ _ hd).seq
    have hT1 := tab_ex hT e1
    refine n_next ?_
    dsimp only
    refine ⟨.ref a, rfl, a, xs, rfl, hS, hT1, fun H2 tb => ⟨xs.length, ?_⟩⟩
    have eb := Tabd.exb tb
    refine rd_tasks ok xs.length 0 H2 (by omega) (tb_t hT1 eb hS) (DqAll.tb hT1 eb _ _ hA) fun H3 e3 => k H3 (((Ex.b e1).trans eb).trans (Ex.b e3)) (tab_ex tb.1 e3)
theorem ok_require_forest (T : Txt K mg) (tb : GxR.TabB base mg T.c_is_forest T.P_is_forest) : FnOk P w K mg base CX0 7 T.d_require_forest.a T.d_require_forest.fd ["value"] (spForest K T.P_is_forest .non) := by
  refine T.d_require_forest.F.ok sc_require_forest (fun vs H Q E h => ?_) (fun cdv A outer s H vs Q E hr h => ?_)
  · obtain ⟨p, v, fs, rfl, _⟩ := h
    rfl
  · obtain ⟨p, v, fs, rfl, hd, ok, hT, k⟩ := h
    refine ⟨_, (pss_one (ps_if (pt_not (pt_val (pe_call (ok_is_forest T tb) (hr.mono (by decide)) (by rfl) T.d_is_forest.g T.d_is_forest.F.kp T.d_is_forest.b .nil pass0 (pa_cons (pv 0) pa_nil)))) (pss_one ps_never) pss_nil)), ?_⟩
    refine ⟨v, rfl, p, v, fs, rfl, hd, ok, hT, fun H1 eb ht => ⟨true, rfl, ?_⟩⟩
    refine iteF ?_
    exact k H1 eb ht
def spKids (K : PySem.W.Frag) : Sp := fun vs H Q _ => ∃ (p : Addr) (v : V) (fs : List Tk) (o : Option Nat), vs = [v, parV o] ∧ Dq K p H v (fsD fs) ∧ fs.length ≤ 8 ∧ ∀ l H', Ex H H' → H l = none → H' l = some (.lst (intsV (kidsN fs o))) → Q (.ref l) H'
theorem ok_children_of (T : Txt K mg) : FnOk P w K mg base CX0 1 T.d_children_of.a T.d_children_of.fd ["forest", "parent"] (spKids K) := by
  refine T.d_children_of.F.ok sc_children_of (fun vs H Q E h => ?_) (fun cdv A outer s H vs Q E hr h => ?_)
  · obtain ⟨p, v, fs, o, rfl, _⟩ := h
    rfl
  · obtain ⟨p, v, fs, o, rfl, hd, l8, k⟩ := h
    refine ⟨_, (pss_one (ps_ret (pe_lc (own := [("number", 2), ("task", 3)]) (g := gTup K 2 (gCons (gName 2) (gCons (gName 3) gNil))) (tt := tTest (tOp rEq (tOp (rIxT K) (tVar 3) (tC (.int 0))) (tVar 1))) rfl sc_children_of.nd (pi_enumT (by rfl) T.n_enumerate (pa_cons (pv 0) pa_nil)) (blkOk_by (own := [("number", 2), ("task", 3)]) (N := n_children_of) (sc := defScope s_children_of) (by decide +kernel)) (fun _ _ _ _ _ => (pg_tup rfl (pgs_cons (pg_name (i := 2) sc_children_of.nd rfl (Or.inl rfl)) (pgs_cons (pg_name (i := 3) sc_children_of.nd rfl (Or.inl rfl)) pgs_nil)))) (fun _ _ _ _ _ => pts_one (pt_cmpR op_eq (pe_ix ix_tup (pv 3) pe_int (fun _ _ => rfl)) (pv 1) (nomark _))) (fun _ _ _ _ _ => (pv 2))))), ?_⟩
    obtain ⟨a, xs, rfl, hS, hA⟩ := hd.seq
    have xl : xs.length = fs.length := by rw [hA.len, List.length_map]
    refine ⟨.ref a, rfl, a, xs, rfl, hS, fun D nD => ?_⟩
    refine lc_it (walk_enumT (K := K) (a := a) (xs := xs)) (fun i G => Ex H G ∧ G D = some (.lst (intsV (kidsT fs o i)))) ⟨Ex.new nD, upd_same⟩ (fun i G _ h => ex_t h.1 hS) ?_ ?_
    · rintro i x G G' hi ⟨ex, hD⟩ ⟨T0, nx, y, rfl, hT0, rfl, h1, h2⟩
      cases h1
      obtain ⟨t, ht, qt⟩ := hA.map_get h2
      have x1 := ex.trans (Ex.new (o := .tup [.int (i : Nat), y]) hT0)
      have nT : D ≠ T0 := ne_of_none hD hT0
      obtain ⟨b, z0, z1, z2, rfl, hb, q0, _, _⟩ := (Dq.ex x1 _ _ qt).tk
      have e0 := par_V q0
      subst e0
      refine ⟨T0, _, rfl, SqT.of upd_same, rfl, _, _, rfl, _, _, rfl, rfl, ?_⟩
      refine ⟨rfl, ?_⟩
      refine ⟨_, rfl, b, _, 0, parV t.par, rfl, rfl, hb, rfl, _, rfl, parV_scal _ _, _, rfl, ?_⟩
      rw [parV_eq]
      have hp : hasPar fs o i = decide (t.par = o) := by
        unfold hasPar
        rw [ht, Option.map_some, Bool.eq_iff_iff, decide_eq_true_iff, decide_eq_true_iff, Option.some.injEq]
      rw [← hp]
      have hD' : (upd G T0 (.tup [.int (i : Nat), .ref b])) D = some (.lst (intsV (kidsT fs o i))) := by rw [upd_ne nT]; exact hD
      cases hc : hasPar fs o i with
      | true =>
        dsimp only
        rw [if_pos rfl]
        refine ⟨_, rfl, _, hD', small1000 (by unfold intsV; rw [List.length_map]; have := kidsT_len fs o i; omega), Ex.mut x1 nD, ?_⟩
        rw [upd_same, kidsT_succ, if_pos hc]
        unfold intsV
        rw [List.map_append]
        rfl
      | false =>
        dsimp only
        rw [if_neg (by decide)]
        refine ⟨x1, ?_⟩
        rw [kidsT_succ, if_neg (by rw [hc]; decide), List.append_nil]
        exact hD'
    · rintro G ⟨ex, hD⟩
      rw [xl] at hD
      exact k D G ex nD hD
end
/-! ### drawn terms: shown without harm, compared without harm -/
mutual
theorem noL_lay : ∀ d : PyData, noL d = true → d.canLay0 = true ∧ d.hasDict = false
  | .none, _ => ⟨rfl, rfl⟩
  | .bool _, _ => ⟨rfl, rfl⟩
  | .int _, _ => ⟨rfl, rfl⟩
  | .str x, h => by
    have h' := of_decide_eq_true (show decide (x = "end" ∨ x = "all" ∨ x = "step") = true from by simpa [noL, strS] using h)
    rcases h' with rfl | rfl | rfl <;> exact ⟨by decide +kernel, rfl⟩
  | .list _, h => by simp [noL] at h
  | .dict _, h => by simp [noL] at h
  | .tuple xs, h => by
    have := noLA_lay xs (by simpa [noL] using h)
    exact ⟨by simpa [PyData.canLay0] using this.1, by simpa [PyData.hasDict] using this.2⟩
theorem noLA_lay : ∀ ds : List PyData, noLA ds = true → PyData.canLayAll0 ds = true ∧ PyData.hasDictAll ds = false
  | [], _ => ⟨rfl, rfl⟩
  | d :: ds, h => by
    simp only [noLA, Bool.and_eq_true] at h
    have h1 := noL_lay d h.1
    have h2 := noLA_lay ds h.2
    simp [PyData.canLayAll0, PyData.hasDictAll, h1.1, h1.2, h2.1, h2.2]
end
theorem noLA_mem : ∀ {ds : List PyData} {d : PyData}, noLA ds = true → d ∈ ds → noL d = true
  | e :: ds, d, h, hd => by
    simp only [noLA, Bool.and_eq_true] at h
    rcases List.mem_cons.mp hd with rfl | hd
    · exact h.1
    · exact noLA_mem h.2 hd
theorem noL_fr {q : PyData} (h : frB q = true) (hn : noL q = true) : Nc 140 1 q := by
  have e := frB_iff h
  rw [e] at hn ⊢
  simp only [frd, noL, noLA, Bool.and_true, Bool.and_eq_true, decide_eq_true_eq] at hn
  exact nc_pair hn.1 hn.2 (by decide) (by decide)
theorem noLA_of : ∀ {ds : List PyData}, (∀ d ∈ ds, noL d = true) → noLA ds = true
  | [], _ => rfl
  | d :: ds, h => by
    simp only [noLA, Bool.and_eq_true]
    exact ⟨h d (by simp), noLA_of fun e he => h e (by simp [he])⟩
/-! ### terms of forests, as data -/
def dE : PyData := .tuple [.str "end"]
/-- many terms as one -/
def pioD : List PyData → PyData
  | [] => dE
  | [d] => d
  | [d, e] => .tuple [.str "all", .tuple [d, e]]
  | [d, e, f] => .tuple [.str "all", .tuple [d, e, f]]
  | d :: e :: f :: g :: r => .tuple [.str "all", .tuple [d, e, pioD (f :: g :: r)]]
theorem sAll : strS "all" = true := by decide +kernel
theorem sStep : strS "step" = true := by decide +kernel
theorem sEnd : strS "end" = true := by decide +kernel
theorem noL_dE : noL dE = true := by decide +kernel
theorem noL_all {ds : List PyData} (h : noLA ds = true) : noL (.tuple [.str "all", .tuple ds]) = true := by
  simp only [noL, noLA, sAll, h, Bool.and_self]
theorem noL_pio : ∀ ds : List PyData, noLA ds = true → noL (pioD ds) = true
  | [], _ => noL_dE
  | [d], h => by
    simp only [noLA, Bool.and_eq_true, Bool.and_true] at h
    exact h
  | [d, e], h => noL_all h
  | [d, e, f], h => noL_all h
  | d :: e :: f :: g :: r, h => by
    simp only [noLA, Bool.and_eq_true] at h
    have ih := noL_pio (f :: g :: r) (by simp only [noLA, h.2.2.1, h.2.2.2.1, h.2.2.2.2, Bool.and_self])
    refine noL_all ?_
    simp only [noLA, h.1, h.2.1, ih, Bool.and_self]
/-- how much there is to come behind an index -/
def px (L m : Nat) : Nat := 2 ^ (L - m)
theorem px_lt {L m m' : Nat} (h : m < m') (h' : m' ≤ L) : 2 * px L m' ≤ px L m := by
  unfold px
  have e : L - m = (L - m') + (m' - m - 1) + 1 := by omega
  rw [e, Nat.pow_succ, Nat.pow_add]
  have : 1 ≤ 2 ^ (m' - m - 1) := Nat.one_le_two_pow
  have := Nat.le_mul_of_pos_right (2 ^ (L - m')) this
  omega
theorem px_pos (L m : Nat) : 1 ≤ px L m := Nat.one_le_two_pow
theorem px_L (L : Nat) : px L L = 1 := by
  unfold px
  rw [Nat.sub_self]
theorem px_two {L m : Nat} (h : m < L) : 2 ≤ px L m := by
  have := px_lt h (Nat.le_refl L)
  rw [px_L] at this
  omega
theorem nc_all2 {c c' e : Nat} {x y : PyData} (h : Nc c e x) (h' : Nc c' e y) : Nc (c + c' + 30) (e + 2) (.tuple [.str "all", .tuple [x, y]]) :=
  (nc_tup (nca_cons ((nc_str (x := "all") (c := 5) (by decide +kernel)).mono (Nat.le_refl _) (Nat.zero_le _)) (nca_cons (nc_tup (nca_cons h (nca_cons h' nca_nil))) nca_nil))).mono (by omega) (by omega)
theorem nc_all3 {c c' c2 e : Nat} {x y z : PyData} (h : Nc c e x) (h' : Nc c' e y) (h2 : Nc c2 e z) : Nc (c + c' + c2 + 30) (e + 2) (.tuple [.str "all", .tuple [x, y, z]]) :=
  (nc_tup (nca_cons ((nc_str (x := "all") (c := 5) (by decide +kernel)).mono (Nat.le_refl _) (Nat.zero_le _)) (nca_cons (nc_tup (nca_cons h (nca_cons h' (nca_cons h2 nca_nil)))) nca_nil))).mono (by omega) (by omega)
theorem nc_dE : Nc 20 1 dE := (nc_tup (nca_cons (nc_str (x := "end") (c := 5) (by decide +kernel)) nca_nil)).mono (by omega) (by omega)
/-- what a term of the task m costs, of L tasks -/
def Ncm (L m : Nat) (d : PyData) : Prop := Nc (1000 * px L m - 30) (5 * (L - m)) d
theorem nc_pio {L : Nat} {f : Nat → PyData} : ∀ (ms : List Nat) (m : Nat), List.Pairwise (· < ·) (m :: ms) → (∀ n ∈ m :: ms, n < L ∧ Ncm L n (f n)) → Nc (1000 * (2 * px L m - 2)) (5 * (L - m) + 2) (pioD ((m :: ms).map f))
  | [], m, _, h => by
    obtain ⟨h0, h1⟩ := h m (by simp)
    have p0 := px_two h0
    exact h1.mono (by omega) (by omega)
  | [a], m, hp, h => by
    obtain ⟨h0, h1⟩ := h m (by simp)
    obtain ⟨a0, a1⟩ := h a (by simp)
    have ma : m < a := by simpa using hp
    have p0 := px_two a0
    have p1 := px_lt ma (Nat.le_of_lt a0)
    exact (nc_all2 (e := 5 * (L - m)) (h1.mono (Nat.le_refl _) (Nat.le_refl _)) (a1.mono (Nat.le_refl _) (by omega))).mono (by omega) (by omega)
  | [a, b], m, hp, h => by
    obtain ⟨h0, h1⟩ := h m (by simp)
    obtain ⟨a0, a1⟩ := h a (by simp)
    obtain ⟨b0, b1⟩ := h b (by simp)
    obtain ⟨ma, ab⟩ : m < a ∧ a < b := by
      simp at hp
      omega
    have p0 := px_two b0
    have p1 := px_lt ma (Nat.le_of_lt a0)
    have p2 := px_lt ab (Nat.le_of_lt b0)
    exact (nc_all3 (e := 5 * (L - m)) (h1.mono (Nat.le_refl _) (Nat.le_refl _)) (a1.mono (Nat.le_refl _) (by omega)) (b1.mono (Nat.le_refl _) (by omega))).mono (by omega) (by omega)
  | a :: b :: c :: r, m, hp, h => by
    obtain ⟨h0, h1⟩ := h m (by simp)
    obtain ⟨a0, a1⟩ := h a (by simp)
    obtain ⟨b0, _⟩ := h b (by simp)
    obtain ⟨ma, ab⟩ : m < a ∧ a < b := by
      have h1 := (List.pairwise_cons.mp hp).1 a (by simp)
      have h2 := (List.pairwise_cons.mp (List.pairwise_cons.mp hp).2).1 b (by simp)
      exact ⟨h1, h2⟩
    have hq := (List.pairwise_cons.mp (List.pairwise_cons.mp hp).2).2
    have ih := nc_pio (c :: r) b hq fun n hn => h n (List.mem_cons_of_mem _ (List.mem_cons_of_mem _ hn))
    have p0 := px_two b0
    have p1 := px_lt ma (Nat.le_of_lt a0)
    have p2 := px_lt ab (Nat.le_of_lt b0)
    exact (nc_all3 (e := 5 * (L - m)) (h1.mono (Nat.le_refl _) (Nat.le_refl _)) (a1.mono (Nat.le_refl _) (by omega)) (ih.mono (Nat.le_refl _) (by omega))).mono (by omega) (by omega)
/-- the term of a task, k levels deep -/
def tkT (fs : List Tk) : Nat → Nat → PyData
  | 0, _ => .none
  | k + 1, n => match fs[n]? with
    | none => .none
    | some t => .tuple [.str "step", t.pay, .tuple (if frQ t.fac = 0 then [] else [.tuple [t.fac, pioD ((kidsN fs (some n)).map (tkT fs k))]])]
def lowO : Option Nat → Nat
  | none => 0
  | some q => q + 1
theorem kids_of {fs : List Tk} {o : Option Nat} {n : Nat} (ok : FsOk fs) (h : n ∈ kidsN fs o) : lowO o ≤ n ∧ n < fs.length := by
  unfold kidsN kidsT at h
  rw [List.mem_filter, List.mem_range] at h
  obtain ⟨h1, h2⟩ := h
  refine ⟨?_, h1⟩
  have h2 := of_decide_eq_true h2
  have e := List.getElem?_eq_getElem h1
  rw [e, Option.map_some, Option.some.injEq] at h2
  cases o with
  | none => exact Nat.zero_le _
  | some q => exact (ok.ok n _ e).lt q h2
theorem kids_up (fs : List Tk) (o : Option Nat) : List.Pairwise (· < ·) (kidsN fs o) := by
  unfold kidsN kidsT
  exact List.Pairwise.filter _ List.pairwise_lt_range
theorem tkT_nc {fs : List Tk} (ok : FsOk fs) : ∀ (k n : Nat), n < fs.length → fs.length ≤ n + k → noL (tkT fs k n) = true ∧ Ncm fs.length n (tkT fs k n)
  | 0, n, h, h' => by omega
  | k + 1, n, h, h' => by
    have e := List.getElem?_eq_getElem h
    have ot := ok.ok n _ e
    have ih : ∀ m ∈ kidsN fs (some n), n < m ∧ m < fs.length ∧ noL (tkT fs k m) = true ∧ Ncm fs.length m (tkT fs k m) := fun m hm => by
      obtain ⟨h1, h2⟩ := kids_of ok hm
      have h1' : n + 1 ≤ m := h1
      obtain ⟨a, b⟩ := tkT_nc ok k m h2 (by omega)
      exact ⟨h1', h2, a, b⟩
    have pb : Nc (1000 * (px fs.length n - 2) + 20) (5 * (fs.length - n) - 3) (pioD ((kidsN fs (some n)).map (tkT fs k))) := by
      have up := kids_up fs (some n)
      match hk : kidsN fs (some n), up, ih with
      | [], _, _ => exact nc_dE.mono (by omega) (by omega)
      | m :: ms, up, ih =>
        obtain ⟨m0, m1, _⟩ := ih m (by simp)
        have p1 := px_lt m0 (Nat.le_of_lt m1)
        exact (nc_pio ms m up fun x hx => ⟨(ih x hx).2.1, (ih x hx).2.2.2⟩).mono (by omega) (by omega)
    have nb : noL (pioD ((kidsN fs (some n)).map (tkT fs k))) = true := noL_pio _ (noLA_of fun d hd => by
      obtain ⟨m, hm, rfl⟩ := List.mem_map.mp hd
      exact (ih m hm).2.2.1)
    have p2 := px_two h
    have np := noL_fr ot.pay ot.nlp
    have hf : frB (fs[n]).fac = true := by
      have := ot.fac
      unfold posZ at this
      simp only [Bool.and_eq_true] at this
      exact this.1
    have nf := noL_fr hf ot.nlf
    unfold tkT
    rw [e]
    dsimp only
    by_cases z : frQ (fs[n]).fac = 0
    · rw [if_pos z]
      refine ⟨by simp only [noL, noLA, sStep, ot.nlp, Bool.and_self], ?_⟩
      exact (nc_tup (nca_cons ((nc_str (x := "step") (c := 6) (by decide +kernel)).mono (Nat.le_refl _) (Nat.zero_le 1)) (nca_cons np (nca_cons ((nc_tup nca_nil).mono (Nat.le_refl _) (Nat.le_refl _)) nca_nil)))).mono (by omega) (by omega)
    · rw [if_neg z]
      refine ⟨by simp only [noL, noLA, sStep, ot.nlp, ot.nlf, nb, Bool.and_self], ?_⟩
      exact (nc_tup (nca_cons ((nc_str (x := "step") (c := 6) (by decide +kernel)).mono (Nat.le_refl _) (Nat.zero_le _)) (nca_cons (np.mono (Nat.le_refl _) (by omega)) (nca_cons (nc_tup (nca_cons (nc_tup (e := 5 * (fs.length - n) - 3) (nca_cons (nf.mono (Nat.le_refl _) (by omega)) (nca_cons pb nca_nil))) nca_nil)) nca_nil)))).mono (by omega) (by omega)
/-- the term of a forest, or of what is behind a task -/
def kidsTm (fs : List Tk) (k : Nat) (o : Option Nat) : PyData := pioD ((kidsN fs o).map (tkT fs k))
theorem fs_nc {fs : List Tk} (ok : FsOk fs) : noL (kidsTm fs 8 none) = true ∧ Nc 900000 60 (kidsTm fs 8 none) := by
  have l8 := ok.most
  have ih : ∀ m ∈ kidsN fs none, m < fs.length ∧ noL (tkT fs 8 m) = true ∧ Ncm fs.length m (tkT fs 8 m) := fun m hm => by
    obtain ⟨_, h2⟩ := kids_of ok hm
    obtain ⟨a, b⟩ := tkT_nc ok 8 m h2 (by omega)
    exact ⟨h2, a, b⟩
  refine ⟨noL_pio _ (noLA_of fun d hd => by
    obtain ⟨m, hm, rfl⟩ := List.mem_map.mp hd
    exact (ih m hm).2.1), ?_⟩
  have up := kids_up fs none
  unfold kidsTm
  match hk : kidsN fs none, up, ih with
  | [], _, _ => exact nc_dE.mono (by omega) (by omega)
  | m :: ms, up, ih =>
    have p8 : px fs.length m ≤ 256 := by
      unfold px
      have h1 : fs.length - m ≤ 8 := by omega
      have := Nat.pow_le_pow_right (show 2 > 0 by decide) h1
      omega
    exact (nc_pio ms m up fun x hx => ⟨(ih x hx).1, (ih x hx).2.2⟩).mono (by omega) (by omega)
section
variable {K : PySem.W.Frag} {p l : Addr} {H : Hp} {σ : L2.St} {i : Nat} {xs : List V} {ds : List PyData} {te : TE}
theorem et_truL (hv : σ[i]? = some (some (.ref l))) (hl : H l = some (.lst xs)) : EvT (fun σ H Q => tVar i σ H fun x H' => ∃ k, TruV K x H' k ∧ Q k H') σ H (!xs.isEmpty) := fun H1 e Q k =>
  ⟨_, hv, !xs.isEmpty, .inl ⟨xs, SqL.of (e _ _ hl), rfl⟩, k H1 (Ex.refl H1)⟩
theorem ev_lenL (hv : σ[i]? = some (some (.ref l))) (hl : H l = some (.lst xs)) : Ev (tCB (fun xs H_1 Q => ∃ p ys, xs = [V.ref p] ∧ (SqL K H_1 p ys ∨ SqT K H_1 p ys) ∧ Q (V.int ys.length) H_1) (tCons (tVar i) tNil)) σ H (.int (xs.length : Int)) := fun H1 e Q k =>
  ⟨_, hv, l, xs, rfl, .inl (SqL.of (e _ _ hl)), k H1 (Ex.refl H1)⟩
theorem ed_ixL {zs : List V} {j : Nat} {dj : PyData} (hv : σ[i]? = some (some (.ref l))) (hz : H l = some (.lst zs)) (hA : DqAll K p H zs ds) (e : ds[j]? = some dj) : EvD K p (tOp (rIxL K) (tVar i) (tC (.int (j : Int)))) σ H dj := fun H1 e1 Q k => by
  obtain ⟨x, hx, q⟩ := hA.get e
  exact ⟨_, hv, l, zs, j, x, rfl, rfl, SqL.of (e1 _ _ hz), atI_nat hx, k x H1 (Ex.refl _) (Dq.ex e1 _ _ q)⟩
theorem ed_tupL {zs : List V} (hv : σ[i]? = some (some (.ref l))) (hz : H l = some (.lst zs)) (hA : DqAll K p H zs ds) : EvD K p (tCB (fun xs H Q => ∃ p ys, xs = [.ref p] ∧ ((SqL K H p ys ∧ ∀ l, H l = none → Q (.ref l) (upd H l (.tup ys))) ∨ (SqT K H p ys ∧ Q (.ref p) H))) (tCons (tVar i) tNil)) σ H (.tuple ds) := fun H1 e Q k =>
  ⟨_, hv, l, zs, rfl, .inl ⟨SqL.of (e _ _ hz), fun t ft => k _ _ (Ex.new ft) (.tup (SqT.of upd_same) (DqAll.ex (e.trans (Ex.new ft)) _ _ hA))⟩⟩
end
theorem DqAll.drop {K : PySem.W.Frag} {p : Addr} {H : Hp} : ∀ {xs : List V} {ds : List PyData}, DqAll K p H xs ds → ∀ n, DqAll K p H (xs.drop n) (ds.drop n)
  | _, _, h, 0 => h
  | _, _, .nil, _ + 1 => .nil
  | _, _, .cons _ hs, n + 1 => hs.drop n
section
variable {P : Program} {w : World} {K : PySem.W.Frag} {mg : Str → Option Value} {base : Heap}
def spPut (K : PySem.W.Frag) (k : Nat) : Sp := fun vs H Q _ => ∃ (p l : Addr) (xs : List V) (ds : List PyData), vs = [.ref l] ∧ H l = some (.lst xs) ∧ DqAll K p H xs ds ∧ ds.length ≤ 2 * k + 3 ∧ ∀ v H', Ex H H' → Dq K p H' v (pioD ds) → Q v H'
def spPutB (K : PySem.W.Frag) (k : Nat) : Sp := fun vs H Q E => ∃ j, k = 1 + j ∧ spPut K j vs H Q E
theorem ok_put_of (T : Txt K mg) (k : Nat) (ih : FnOk P w K mg base CX0 k T.d_put_into_one.a T.d_put_into_one.fd ["terms"] (spPutB K k)) : FnOk P w K mg base CX0 (k + 1) T.d_put_into_one.a T.d_put_into_one.fd ["terms"] (spPut K k) := by
  refine (T.d_put_into_one.F.ok (k := k) sc_put_into_one (fun vs H Q E h => ?_) fun cdv A outer s H vs Q E hr h => ?_)
  · obtain ⟨p, l, xs, ds, rfl, _⟩ := h
    rfl
  · obtain ⟨p, l, xs, ds, rfl, hl, hA, hn, kk⟩ := h
    refine ⟨_, (pss_cons (ps_if (pt_not (pt_truth (pv 0) (by intro _; rfl))) (pss_one (ps_ret (pe_glob (v := .ref T.a_END) rfl T.c_END rfl))) pss_nil)
      (pss_cons (ps_if (pt_cmpR op_eq (pe_callB call_len_seq (by rfl) T.n_len (by decide +kernel) (pa_cons (pv 0) pa_nil)) pe_int (nomark _)) (pss_one (ps_ret (pe_ix ix_list (pv 0) pe_int (fun _ _ => rfl)))) pss_nil)
      (pss_cons (ps_if (pt_cmpR op_le (pe_callB call_len_seq (by rfl) T.n_len (by decide +kernel) (pa_cons (pv 0) pa_nil)) pe_int (nomark _)) (pss_one (ps_ret (pe_tup (pa_cons pe_str (pa_cons (pe_callTy call_tuple_of (by rfl) T.n_tuple (by decide +kernel) (pa_cons (pv 0) pa_nil)) pa_nil))))) pss_nil)
      (pss_one (ps_ret (pe_tup (pa_cons pe_str (pa_cons (pe_tup (pa_cons (pe_ix ix_list (pv 0) pe_int (fun _ _ => rfl)) (pa_cons (pe_ix ix_list (pv 0) pe_int (fun _ _ => rfl)) (pa_cons (pe_call ih (hr.mono (by omega)) (by rfl) T.d_put_into_one.g T.d_put_into_one.F.kp T.d_put_into_one.b .nil pass0 (pa_cons (pe_slice sl_list (pv 0) (po_some pe_int) po_none) pa_nil)) pa_nil)))) pa_nil)))))))), ?_⟩
    have xl : xs.length = ds.length := hA.len
    cases ds with
    | nil =>
      cases hA
      refine s_if (b := true) (et_is (et_not (et_truL rfl hl)) rfl) (fun _ H1 e1 => ?_) fun z => nomatch z
      exact kk _ H1 e1 (.tup (.inr T.k_END) (.cons (.str "end") .nil))
    | cons d1 ds =>
    refine s_if (b := false) (et_is (et_not (et_truL rfl hl)) (by cases hA; rfl)) (fun z => nomatch z) fun _ H1 e1 => ?_
    have hl1 := e1 _ _ hl
    have hA1 := DqAll.ex e1 _ _ hA
    refine n_next ?_
    dsimp only
    refine n_seq ?_
    cases ds with
    | nil =>
      refine (et_test (ev_op (ev_lenL rfl hl1) ev_c (rv_eq rfl))) H1 (Ex.refl _) _ fun H2 e2 => ?_
      rw [xl]
      refine iteT ?_
      refine ed_ixL (K := K) (p := p) (j := 0) (dj := d1) rfl (e2 _ _ hl1) (DqAll.ex e2 _ _ hA1) rfl H2 (Ex.refl _) _ fun x H3 e3 q => ?_
      exact kk x H3 ((e1.trans e2).trans e3) q
    | cons d2 ds =>
    refine (et_test (ev_op (ev_lenL rfl hl1) ev_c (rv_eq rfl))) H1 (Ex.refl _) _ fun H2 e2 => ?_
    rw [decide_eq_false (p := V.int (xs.length : Int) = V.int 1) (fun z => by
      have := V.int.inj z
      simp only [List.length_cons] at xl
      omega)]
    have hl2 := e2 _ _ hl1
    have hA2 := DqAll.ex e2 _ _ hA1
    refine iteF ?_
    refine n_next ?_
    dsimp only
    refine n_seq ?_
    refine (et_test (ev_op (ev_lenL rfl hl2) ev_c rv_I0)) H2 (Ex.refl _) _ fun H3 e3 => ?_
    have hl3 := e3 _ _ hl2
    have hA3 := DqAll.ex e3 _ _ hA2
    have E3 := (e1.trans e2).trans e3
    by_cases h3 : ds.length ≤ 1
    · rw [decide_eq_true (p := (xs.length : Int) ≤ 3) (by
        simp only [List.length_cons] at xl
        omega)]
      refine iteT ?_
      refine s_retP (ed_tup (K := K) (p := p) (ds := [.str "all", .tuple (d1 :: d2 :: ds)]) (eds_cons ed_str (eds_cons (ed_tupL rfl hl3 hA3) eds_nil)) (by show 2 ≤ 1000; decide)) fun v H4 e4 q => kk v H4 (E3.trans e4) ?_
      match ds, h3, q with
      | [], _, q => exact q
      | [_], _, q => exact q
    · rw [decide_eq_false (p := (xs.length : Int) ≤ 3) (by
        simp only [List.length_cons] at xl
        omega)]
      refine iteF ?_
      refine n_next ?_
      match ds, h3, hA3, hn, kk, xl with
      | [], h3, _, _, _, _ => exact absurd (Nat.zero_le 1) h3
      | [_], h3, _, _, _, _ => exact absurd (Nat.le_refl 1) h3
      | d3 :: d4 :: dr, _, hA3, hn, kk, xl =>
        simp only [List.length_cons] at hn xl
        obtain ⟨j, rfl⟩ : ∃ j, k = 1 + j := ⟨k - 1, by omega⟩
        dsimp only
        have e2 : HT.sIx xs.length 0 (some 2) = min 2 xs.length := HT.sIx_nat xs.length 0 2
        have cc : cutV xs (some 2) none = xs.drop 2 := by
          unfold cutV
          rw [e2, HT.sIx_none, Nat.min_eq_left (by omega), List.take_of_length_le (by rw [List.length_drop]; omega)]
        have call : EvD K p (tCall (spPutB K (1 + j)) [] E0 (tCons (tSl (rSlL K) (tVar 0) (tPart (tC (.int 2))) tNoPart) tNil)) [some (.ref l)] H3 (pioD (d3 :: d4 :: dr)) := fun H4 e4 Q' kk' =>
          ⟨_, rfl, 2, rfl, l, xs, rfl, SqL.of (e4 _ _ hl3), fun t ft => ⟨j, rfl, p, t, xs.drop 2, d3 :: d4 :: dr, rfl, by rw [cc]; exact upd_same, (DqAll.ex (e4.trans (Ex.new ft)) _ _ hA3).drop 2, by simp only [List.length_cons]; omega, fun v H5 e5 q => kk' v H5 ((Ex.new ft).trans e5) q⟩⟩
        refine s_retP (ed_tup (K := K) (p := p) (ds := [.str "all", .tuple [d1, d2, pioD (d3 :: d4 :: dr)]]) (eds_cons ed_str (eds_cons (ed_tup (eds_cons (ed_ixL (j := 0) (dj := d1) rfl hl3 hA3 rfl) (eds_cons (ed_ixL (j := 1) (dj := d2) rfl hl3 hA3 rfl) (eds_cons call eds_nil))) (by show 3 ≤ 1000; decide)) eds_nil)) (by show 2 ≤ 1000; decide)) fun v H4 e4 q => kk v H4 (E3.trans e4) q
theorem ok_put_into_one (T : Txt K mg) : ∀ k, FnOk P w K mg base CX0 (k + 1) T.d_put_into_one.a T.d_put_into_one.fd ["terms"] (spPut K k)
  | 0 => ok_put_of T 0 ⟨fun _ _ _ _ ⟨j, z, _⟩ => by omega, fun _ _ _ _ _ _ _ _ _ _ _ _ _ ⟨j, z, _⟩ => by omega⟩
  | k + 1 => ok_put_of T (k + 1) ⟨fun vs H Q E ⟨j, z, h⟩ => by
      obtain rfl : j = k := by omega
      exact (ok_put_into_one T j).len _ _ _ _ h, fun A outer s H args us vs Q E hr e0 hb hv ⟨j, z, h⟩ => by
      obtain rfl : j = k := by omega
      exact (ok_put_into_one T j).run A outer s H args us vs Q E hr e0 hb hv h⟩
end
/-! ### the program's terms -/
theorem Dq.facFr {K : PySem.W.Frag} {p : Addr} {H : Hp} {v : V} {d : PyData} (h : Dq K p H v d) (hp : posZ d = true) (nl : noL d = true) : Fr K 64 (frQ d) v H := by
  unfold posZ at hp
  simp only [Bool.and_eq_true] at hp
  refine h.fr hp.1 ?_
  have e := frB_iff hp.1
  rw [e] at nl
  simp only [frd, noL, noLA, Bool.and_true, Bool.and_eq_true, decide_eq_true_eq] at nl
  exact ⟨nl.1, by have := nl.2; omega⟩
theorem DqAll.tk_at {K : PySem.W.Frag} {p : Addr} {H : Hp} {xs : List V} {fs : List Tk} {n : Nat} (h : DqAll K p H xs (fs.map tkD)) (hn : n < fs.length) : ∃ x, xs[n]? = some x ∧ Dq K p H x (tkD fs[n]) :=
  h.get (j := n) (dj := tkD fs[n]) (by rw [List.getElem?_map, List.getElem?_eq_getElem hn]; rfl)
section
variable {P : Program} {w : World} {K : PySem.W.Frag} {mg : Str → Option Value} {base : Heap}
def spTask1 (K : PySem.W.Frag) (k : Nat) : Sp := fun vs H Q _ => ∃ (p : Addr) (v : V) (fs : List Tk) (n : Nat), vs = [v, .int (n : Nat)] ∧ Dq K p H v (fsD fs) ∧ FsOk fs ∧ n < fs.length ∧ fs.length ≤ n + k ∧ ∀ x H', Ex H H' → Dq K p H' x (tkT fs k n) → Q x H'
def spTasks (K : PySem.W.Frag) (k : Nat) : Sp := fun vs H Q _ => ∃ (p l : Addr) (v : V) (fs : List Tk) (ns : List Nat), vs = [v, .ref l] ∧ Dq K p H v (fsD fs) ∧ FsOk fs ∧ H l = some (.lst (intsV ns)) ∧ ns.length ≤ 8 ∧ (∀ n ∈ ns, n < fs.length ∧ fs.length ≤ n + k) ∧ ∀ x H', Ex H H' → Dq K p H' x (pioD (ns.map (tkT fs k))) → Q x H'
theorem ok_term_of_tasks_of (T : Txt K mg) {k j : Nat} (hj : 4 ≤ j) (ih : FnOk P w K mg base CX0 j T.d_term_of_task.a T.d_term_of_task.fd ["forest", "number"] (spTask1 K k)) : FnOk P w K mg base CX0 (j + 1) T.d_term_of_tasks.a T.d_term_of_tasks.fd ["forest", "tasks"] (spTasks K k) := by
  refine (T.d_term_of_tasks.F.ok (k := j) sc_term_of_tasks (fun vs H Q E h => ?_) fun cdv A outer s H vs Q E hr h => ?_)
  · obtain ⟨p, l, v, fs, ns, rfl, _⟩ := h
    rfl
  · obtain ⟨p, l, v, fs, ns, rfl, hd, ok, hl, n8, hn, kk⟩ := h
    refine ⟨_, (pss_one (ps_ret (pe_call (ok_put_into_one T 3) (hr.mono (by first | decide | omega)) (by rfl) T.d_put_into_one.g T.d_put_into_one.F.kp T.d_put_into_one.b .nil pass0 (pa_cons (pe_lc (own := [("number", 2)]) (g := gName 2) (tt := tYes) rfl sc_term_of_tasks.nd (pi_list (pv 1)) (blkOk_by (own := [("number", 2)]) (N := n_term_of_tasks) (sc := defScope s_term_of_tasks) (by decide +kernel)) (fun _ _ _ _ _ => pg_name (i := 2) sc_term_of_tasks.nd rfl (Or.inl rfl)) (fun _ _ _ _ _ => pts_nil) (fun _ _ _ _ _ => (pe_call (ih) (hr.mono (by first | decide | omega)) (by rfl) T.d_term_of_task.g T.d_term_of_task.F.kp T.d_term_of_task.b .nil pass0 (pa_cons (pv 0) (pa_cons (pv 2) pa_nil))))) pa_nil)))), ?_⟩
    dsimp only
    obtain ⟨a, fx, rfl, hS, hA⟩ := hd.seq
    have nlT : ∀ i, noLA ((ns.take i).map (tkT fs k)) = true := fun i => noLA_of fun d hd => by
      obtain ⟨m, hm, rfl⟩ := List.mem_map.mp hd
      obtain ⟨h1, h2⟩ := hn m (List.mem_of_mem_take hm)
      exact (tkT_nc ok k m h1 h2).1
    have il : (intsV ns).length = ns.length := by unfold intsV; rw [List.length_map]
    refine ⟨.ref l, rfl, l, rfl, ⟨_, SqL.of hl⟩, fun D nD => ?_⟩
    refine lc_list (K := K) (a := l) (xs := intsV ns) (fun i G => Ex H G ∧ ∃ zs, G D = some (.lst zs) ∧ zs.length = i ∧ DqAll K p G zs ((ns.take i).map (tkT fs k))) ⟨Ex.new nD, [], upd_same, rfl, .nil⟩ (fun i G _ h => SqL.of (h.1 _ _ hl)) ?_ ?_
    · rintro i x G hx ⟨exG, zs, hz, hzl, qs⟩
      unfold intsV at hx
      rw [List.getElem?_map] at hx
      cases hni : ns[i]? with
      | none => rw [hni] at hx; cases hx
      | some n =>
        rw [hni] at hx
        cases hx
        have hmem := List.mem_of_getElem? hni
        have ile : i < ns.length := (List.getElem?_eq_some_iff.mp hni).1
        obtain ⟨h1, h2⟩ := hn n hmem
        refine ⟨rfl, ?_⟩
        refine yes_of ?_
        rw [if_pos rfl]
        refine ⟨.ref a, rfl, _, rfl, p, .ref a, fs, n, rfl, Dq.ex exG _ _ (.tup hS hA), ok, h1, h2, fun y G2 e2 q2 => ?_⟩
        have hz2 := e2 _ _ hz
        have up : ExB D G2 (upd G2 D (.lst (zs ++ [y]))) := ExB.upd (ExB.refl D _)
        refine ⟨zs, hz2, small1000 (by omega), Ex.mut (exG.trans e2) nD, zs ++ [y], upd_same, by rw [List.length_append, hzl]; rfl, ?_⟩
        rw [List.take_succ, hni, List.map_append]
        exact (DqAll.nl hz2 up _ _ (nlT i) (DqAll.ex e2 _ _ qs)).append (.cons (Dq.nl hz2 up _ _ (tkT_nc ok k n h1 h2).1 q2) .nil)
    · rintro G ⟨exG, zs, hz, hzl, qs⟩
      rw [il, List.take_length] at qs
      exact ⟨p, D, zs, _, rfl, hz, qs, by rw [List.length_map]; omega, fun v H' e' q => kk v H' (exG.trans e') q⟩
theorem ok_term_of_task (T : Txt K mg) : ∀ k, FnOk P w K mg base CX0 (7 + 2 * k) T.d_term_of_task.a T.d_term_of_task.fd ["forest", "number"] (spTask1 K k) := by
  intro k
  induction k with
  | zero => exact ⟨fun vs H Q E ⟨p, v, fs, n, _, _, _, h1, h2, _⟩ => by omega, fun _ _ _ _ _ _ _ _ _ _ _ _ _ ⟨p, v, fs, n, _, _, _, h1, h2, _⟩ => by omega⟩
  | succ k ih =>
    have e9 : 7 + 2 * (k + 1) = 8 + 2 * k + 1 := by omega
    rw [e9]
    refine (T.d_term_of_task.F.ok (k := 8 + 2 * k) sc_term_of_task (fun vs H Q E h => ?_) fun cdv A outer s H vs Q E hr h => ?_)
    · obtain ⟨p, v, fs, n, rfl, _⟩ := h
      rfl
    · obtain ⟨p, v, fs, n, rfl, hd, ok, h1, h2, kk⟩ := h
      refine ⟨_, (pss_cons (ps_asg (pe_ix ix_tup (pv 0) (pv 1) (fun _ _ => rfl)) (pg_tup (by rfl) (pgs_cons (pg_name (i := 2) sc_term_of_task.nd rfl (Or.inl rfl)) (pgs_cons (pg_name (i := 3) sc_term_of_task.nd rfl (Or.inl rfl)) (pgs_cons (pg_name (i := 4) sc_term_of_task.nd rfl (Or.inl rfl)) pgs_nil)))))
      (pss_cons (ps_if (pt_cmpR (op_eqD hr.units) (pv 4) (pe_glob (v := .ref T.a_ZERO) rfl T.c_ZERO rfl) (nomark _)) (pss_one (ps_ret (pe_tup (pa_cons pe_str (pa_cons (pv 3) (pa_cons (pe_tup pa_nil) pa_nil)))))) pss_nil)
      (pss_one (ps_ret (pe_tup (pa_cons pe_str (pa_cons (pv 3) (pa_cons (pe_tup (pa_cons (pe_tup (pa_cons (pv 4) (pa_cons (pe_call (ok_term_of_tasks_of T (by omega) ih) (hr.mono (by first | decide | omega)) (by rfl) T.d_term_of_tasks.g T.d_term_of_tasks.F.kp T.d_term_of_tasks.b .nil pass0 (pa_cons (pv 0) (pa_cons (pe_call (ok_children_of T) (hr.mono (by omega)) (by rfl) T.d_children_of.g T.d_children_of.F.kp T.d_children_of.b .nil pass0 (pa_cons (pv 0) (pa_cons (pv 1) pa_nil))) pa_nil))) pa_nil))) pa_nil)) pa_nil)))))))), ?_⟩
      dsimp only
      obtain ⟨a, fx, rfl, hS, hA⟩ := hd.seq
      obtain ⟨x, hx, qx⟩ := hA.tk_at h1
      obtain ⟨b, z0, z1, z2, rfl, hb, q0, q1, q2⟩ := qx.tk
      have ot := ok.ok n _ (List.getElem?_eq_getElem h1)
      have tk : tkT fs (k + 1) n = .tuple [.str "step", (fs[n]).pay, .tuple (if frQ (fs[n]).fac = 0 then [] else [.tuple [(fs[n]).fac, pioD ((kidsN fs (some n)).map (tkT fs k))]])] := by
        show (match fs[n]? with | none => _ | some t => _) = _
        rw [List.getElem?_eq_getElem h1]
      refine n_seq ?_
      refine ⟨_, rfl, _, rfl, a, fx, n, _, rfl, rfl, hS, atI_nat hx, b, _, rfl, hb, rfl, _, _, rfl, _, _, rfl, _, _, rfl, rfl, ?_⟩
      dsimp only
      have f2 := q2.facFr ot.fac ot.nlf
      have fz : ∀ H', Fr K 1 0 (.ref T.a_ZERO) H' := fun H' => ⟨_, rfl, .inr T.k_ZERO, by decide, by decide⟩
      refine n_seq ?_
      refine (et_test (ev_eqD (K := K) (ep_var rfl f2) (fun H1 e1 Q' k' => k' _ H1 (Ex.refl _) (fz H1)))) H (Ex.refl _) _ fun H1 e1 => ?_
      by_cases c : frQ (fs[n]).fac = 0
      · rw [decide_eq_true c]
        rw [if_pos c] at tk
        refine iteT ?_
        refine s_retP (ed_tup (K := K) (p := p) (ds := [.str "step", (fs[n]).pay, .tuple []]) (eds_cons ed_str (eds_cons (ed_var rfl (Dq.ex e1 _ _ q1)) (eds_cons (ed_tup eds_nil (by decide)) eds_nil))) (by show 3 ≤ 1000; decide)) fun v H2 e2 q => kk v H2 (e1.trans e2) (tk ▸ q)
      · rw [decide_eq_false c]
        rw [if_neg c] at tk
        refine iteF ?_
        refine n_next ?_
        dsimp only
        have call : EvD K p (tCall (spTasks K k) [] E0 (tCons (tVar 0) (tCons (tCall (spKids K) [] E0 (tCons (tVar 0) (tCons (tVar 1) tNil))) tNil))) [some (.ref a), some (.int (n : Nat)), some z0, some z1, some z2] H1 (pioD ((kidsN fs (some n)).map (tkT fs k))) := fun H2 e2 Q' k' => by
          refine ⟨_, rfl, _, rfl, _, rfl, p, .ref a, fs, some n, rfl, Dq.ex (e1.trans e2) _ _ (.tup hS hA), ok.most, fun l H3 e3 _ hl => ?_⟩
          refine ⟨p, l, .ref a, fs, kidsN fs (some n), rfl, Dq.ex ((e1.trans e2).trans e3) _ _ (.tup hS hA), ok, hl, ?_, fun m hm => ?_, fun x H4 e4 q => k' x H4 (e3.trans e4) q⟩
          · have := kidsT_len fs (some n) fs.length
            have := ok.most
            unfold kidsN
            omega
          · obtain ⟨g1, g2⟩ := kids_of ok hm
            have g1' : n + 1 ≤ m := g1
            exact ⟨g2, by omega⟩
        refine s_retP (ed_tup (K := K) (p := p) (ds := [.str "step", (fs[n]).pay, .tuple [.tuple [(fs[n]).fac, pioD ((kidsN fs (some n)).map (tkT fs k))]]]) (eds_cons ed_str (eds_cons (ed_var rfl (Dq.ex e1 _ _ q1)) (eds_cons (ed_tup (eds_cons (ed_tup (eds_cons (ed_var rfl (Dq.ex e1 _ _ q2)) (eds_cons call eds_nil)) (by show 2 ≤ 1000; decide)) eds_nil) (by show 1 ≤ 1000; decide)) eds_nil))) (by show 3 ≤ 1000; decide)) fun v H2 e2 q => kk v H2 (e1.trans e2) (tk ▸ q)
def spTmF (K : PySem.W.Frag) : Sp := fun vs H Q _ => ∃ (p : Addr) (v : V) (fs : List Tk), vs = [v] ∧ Dq K p H v (fsD fs) ∧ FsOk fs ∧ ∀ x H', Ex H H' → Dq K p H' x (kidsTm fs 8 none) → Q x H'
theorem ok_term_of_forest (T : Txt K mg) : FnOk P w K mg base CX0 25 T.d_term_of_forest.a T.d_term_of_forest.fd ["forest"] (spTmF K) := by
  refine T.d_term_of_forest.F.ok sc_term_of_forest (fun vs H Q E h => ?_) (fun cdv A outer s H vs Q E hr h => ?_)
  · obtain ⟨p, v, fs, rfl, _⟩ := h
    rfl
  · obtain ⟨p, v, fs, rfl, hd, ok, kk⟩ := h
    refine ⟨_, (pss_one (ps_ret (pe_call (ok_term_of_tasks_of T (by decide) (ok_term_of_task T 8)) (hr.mono (by first | decide | omega)) (by rfl) T.d_term_of_tasks.g T.d_term_of_tasks.F.kp T.d_term_of_tasks.b .nil pass0 (pa_cons (pv 0) (pa_cons (pe_call (ok_children_of T) (hr.mono (by decide)) (by rfl) T.d_children_of.g T.d_children_of.F.kp T.d_children_of.b .nil pass0 (pa_cons (pv 0) (pa_cons pe_non pa_nil))) pa_nil))))), ?_⟩
    refine ⟨v, rfl, v, rfl, p, v, fs, none, rfl, hd, ok.most, fun l H3 e3 _ hl => ?_⟩
    refine ⟨p, l, v, fs, kidsN fs none, rfl, Dq.ex e3 _ _ hd, ok, hl, ?_, fun m hm => ?_, fun x H4 e4 q => kk x H4 (e3.trans e4) q⟩
    · have := kidsT_len fs none fs.length
      have := ok.most
      unfold kidsN
      omega
    · obtain ⟨g1, g2⟩ := kids_of ok hm
      have := ok.most
      exact ⟨g2, by omega⟩
def spFoTm (K : PySem.W.Frag) (T : Addr) : Sp := fun vs H Q _ => ∃ (p : Addr) (v : V) (fs : List Tk), vs = [v] ∧ Dq K p H v (fsD fs) ∧ FsOk fs ∧ GxR.TabG H T ∧ ∀ x H', ExB T H H' → GxR.TabG H' T → Dq K p H' x (kidsTm fs 8 none) → Q x H'
theorem ok_forest_term (T : Txt K mg) (tb : GxR.TabB base mg T.c_is_forest T.P_is_forest) : FnOk P w K mg base CX0 26 T.d_forest_term.a T.d_forest_term.fd ["forest"] (spFoTm K T.P_is_forest) := by
  refine T.d_forest_term.F.ok sc_forest_term (fun vs H Q E h => ?_) (fun cdv A outer s H vs Q E hr h => ?_)
  · obtain ⟨p, v, fs, rfl, _⟩ := h
    rfl
  · obtain ⟨p, v, fs, rfl, hd, ok, hT, kk⟩ := h
    refine ⟨_, (pss_cons (ps_expr (pe_call (ok_require_forest T tb) (hr.mono (by decide)) (by rfl) T.d_require_forest.g T.d_require_forest.F.kp T.d_require_forest.b .nil pass0 (pa_cons (pv 0) pa_nil)))
      (pss_one (ps_ret (pe_call (ok_term_of_forest T) (hr.mono (by decide)) (by rfl) T.d_term_of_forest.g T.d_term_of_forest.F.kp T.d_term_of_forest.b .nil pass0 (pa_cons (pv 0) pa_nil))))), ?_⟩
    refine n_seq ?_
    refine ⟨v, rfl, p, v, fs, rfl, hd, ok, hT, fun H1 eb ht => ?_⟩
    refine ⟨v, rfl, p, v, fs, rfl, Dq.tb hT eb _ _ hd, ok, fun x H2 e2 q => kk x H2 (eb.trans (Ex.b e2)) (tab_ex ht e2) q⟩
end
/-! ### the law's own pays, factors, forests -/
def dPay : List PyData := [.tuple [.int 0, .int 1], .tuple [.int 1, .int 1], .tuple [.int (-1), .int 1], .tuple [.int 4, .int 1], .tuple [.int 1, .int 2], .tuple [.int (-3), .int 2], .tuple [.int 2, .int 3], .tuple [.int (-5), .int 1], .tuple [.int (10 ^ (11 : Int).toNat), .int 7]]
def dFac : List PyData := [.tuple [.int 1, .int 2], .tuple [.int 1, .int 3], .tuple [.int 1, .int 1], .tuple [.int 2, .int 1], .tuple [.int 0, .int 1], .tuple [.int 3, .int 4], .tuple [.int 9, .int 10], .tuple [.int 3, .int 1]]
theorem good_pay : ∀ d ∈ dPay, (frB d && noL d) = true := by decide +kernel
theorem good_fac : ∀ d ∈ dFac, (posZ d && noL d) = true := by decide +kernel
def tW (n m : Int) : TE := tTup (tCons (tC (.int n)) (tCons (tC (.int m)) tNil))
def tWn (n m : Int) : TE := tTup (tCons (tUn (rU fun i => .int (-i)) (tC (.int n))) (tCons (tC (.int m)) tNil))
section
variable {K : PySem.W.Frag} {p a : Addr} {σ : L2.St} {H : Hp} {N : Nat}
theorem ed_W {n m : Int} : EvD K p (tW n m) σ H (.tuple [.int n, .int m]) := ed_P ed_I ed_I
theorem ed_Wn {n m : Int} : EvD K p (tWn n m) σ H (.tuple [.int (-n), .int m]) := ed_P ed_N ed_I
theorem ev_1011 : Ev (tOp (rI CPow fun i j => .int (i ^ j.toNat)) (tC (.int 10)) (tC (.int 11))) σ H (.int (10 ^ (11 : Int).toNat)) := fun H1 e Q k => ⟨10, 11, rfl, rfl, ⟨by decide, by decide, by decide⟩, k H1 (Ex.refl H1)⟩
theorem mem_get {xs : List V} {ds : List PyData} {H : Hp} (h : DqAll K p H xs ds) {j : Nat} (hj : j < ds.length) : ∃ x, xs[j]? = some x ∧ Dq K p H x ds[j] := h.get (List.getElem?_eq_getElem hj)
theorem rd_pick {tm : TA} {ds : List PyData} {n : Nat} {Q : VK} (hm : EvDs K p tm σ H ds) (hp : Pen H p a N) (h0 : σ[0]? = some (some (.ref p))) (hn : ds.length = n) (l0 : 0 < n) (l1 : n ≤ 900) (hN : N ≤ 90000) (nl : ∀ d ∈ ds, noL d = true)
    (k : ∀ v d H', d ∈ ds → ExB p H H' → Pen H' p a (N + 1) → Dq K p H' v d → Q v H') : tOp (rIxL K) (tLst tm) (tCall (spDraw K) [] E0 (tCons (tVar 0) (tCons (tC (.int (n : Nat))) tNil))) σ H Q := by
  refine hm H (Ex.refl H) _ fun vs H1 e1 qs => ?_
  have vl := qs.len
  refine ⟨Nat.le_of_lt (small1000 (by omega)), fun l fl => ?_⟩
  have x1 := Ex.new (o := .lst vs) fl
  have hp1 := hp.ex (e1.trans x1)
  obtain ⟨xp, hxp⟩ := (hp.ex e1).hasP
  have nlp : l ≠ p := (ne_of_none hxp fl).symm
  refine ⟨_, h0, p, a, _, N, rfl, hp1, by omega, by omega, by omega, fun r H2 r0 r1 eb hp2 => ?_⟩
  obtain ⟨j, rfl⟩ : ∃ j : Nat, r = j := ⟨r.toNat, by omega⟩
  have hj : j < ds.length := by omega
  obtain ⟨x, hx, qx⟩ := mem_get (DqAll.ex x1 _ _ qs) hj
  refine ⟨l, vs, _, x, rfl, rfl, SqL.of (eb _ _ nlp upd_same), atI_nat hx, ?_⟩
  exact k x _ H2 (List.getElem_mem hj) ((Ex.b (e1.trans x1)).trans eb) hp2 (Dq.nl (x1 _ _ hxp) eb _ _ (nl _ (List.getElem_mem hj)) qx)
end
section
variable {P : Program} {w : World} {K : PySem.W.Frag} {mg : Str → Option Value} {base : Heap}
def spPick (K : PySem.W.Frag) (f : PyData → Bool) : Sp := fun vs H Q _ => ∃ (p a : Addr) (N : Nat), vs = [.ref p] ∧ Pen H p a N ∧ N ≤ 90000 ∧ ∀ v d H', ExB p H H' → Pen H' p a (N + 1) → Dq K p H' v d → f d = true → noL d = true → Q v H'
theorem ok__law_pay (T : Txt K mg) : FnOk P w K mg base CX0 3 T.d__law_pay.a T.d__law_pay.fd ["_law_pen_here"] (spPick K frB) := by
  refine T.d__law_pay.F.ok sc__law_pay (fun vs H Q E h => ?_) (fun cdv A outer s H vs Q E hr h => ?_)
  · obtain ⟨p, a, N, rfl, _⟩ := h
    rfl
  · obtain ⟨p, a, N, rfl, hp, hN, k⟩ := h
    refine ⟨_, (pss_one (ps_ret (pe_ix ix_list (pe_lst (pa_cons (pe_tup (pa_cons pe_int (pa_cons pe_int pa_nil))) (pa_cons (pe_tup (pa_cons pe_int (pa_cons pe_int pa_nil))) (pa_cons (pe_tup (pa_cons (pe_un un_neg pe_int) (pa_cons pe_int pa_nil))) (pa_cons (pe_tup (pa_cons pe_int (pa_cons pe_int pa_nil))) (pa_cons (pe_tup (pa_cons pe_int (pa_cons pe_int pa_nil))) (pa_cons (pe_tup (pa_cons (pe_un un_neg pe_int) (pa_cons pe_int pa_nil))) (pa_cons (pe_tup (pa_cons pe_int (pa_cons pe_int pa_nil))) (pa_cons (pe_tup (pa_cons (pe_un un_neg pe_int) (pa_cons pe_int pa_nil))) (pa_cons (pe_tup (pa_cons (pe_op op_pow pe_int pe_int) (pa_cons pe_int pa_nil))) pa_nil)))))))))) (pe_call (ok__law_draw T) (hr.mono (by decide)) (by rfl) T.d__law_draw.g T.d__law_draw.F.kp T.d__law_draw.b .nil pass0 (pa_cons (pv 0) (pa_cons pe_int pa_nil))) (fun _ _ => rfl)))), ?_⟩
    refine rd_pick (K := K) (p := p) (n := 9) (ds := dPay) ?_ hp rfl rfl (by decide) (by decide) hN (fun d hd => by
      have := good_pay d hd
      simp only [Bool.and_eq_true] at this
      exact this.2) fun v d H' hd eb hp' q => by
        have := good_pay d hd
        simp only [Bool.and_eq_true] at this
        exact k v d H' eb hp' q this.1 this.2
    exact eds_cons ed_W (eds_cons ed_W (eds_cons ed_Wn (eds_cons ed_W (eds_cons ed_W (eds_cons ed_Wn (eds_cons ed_W (eds_cons ed_Wn (eds_cons (ed_P (ed_ev ev_1011 fun _ => .int _) ed_I) eds_nil))))))))
theorem ok__law_factor (T : Txt K mg) : FnOk P w K mg base CX0 3 T.d__law_factor.a T.d__law_factor.fd ["_law_pen_here"] (spPick K posZ) := by
  refine T.d__law_factor.F.ok sc__law_factor (fun vs H Q E h => ?_) (fun cdv A outer s H vs Q E hr h => ?_)
  · obtain ⟨p, a, N, rfl, _⟩ := h
    rfl
  · obtain ⟨p, a, N, rfl, hp, hN, k⟩ := h
    refine ⟨_, (pss_one (ps_ret (pe_ix ix_list (pe_lst (pa_cons (pe_tup (pa_cons pe_int (pa_cons pe_int pa_nil))) (pa_cons (pe_tup (pa_cons pe_int (pa_cons pe_int pa_nil))) (pa_cons (pe_tup (pa_cons pe_int (pa_cons pe_int pa_nil))) (pa_cons (pe_tup (pa_cons pe_int (pa_cons pe_int pa_nil))) (pa_cons (pe_tup (pa_cons pe_int (pa_cons pe_int pa_nil))) (pa_cons (pe_tup (pa_cons pe_int (pa_cons pe_int pa_nil))) (pa_cons (pe_tup (pa_cons pe_int (pa_cons pe_int pa_nil))) (pa_cons (pe_tup (pa_cons pe_int (pa_cons pe_int pa_nil))) pa_nil))))))))) (pe_call (ok__law_draw T) (hr.mono (by decide)) (by rfl) T.d__law_draw.g T.d__law_draw.F.kp T.d__law_draw.b .nil pass0 (pa_cons (pv 0) (pa_cons pe_int pa_nil))) (fun _ _ => rfl)))), ?_⟩
    refine rd_pick (K := K) (p := p) (n := 8) (ds := dFac) ?_ hp rfl rfl (by decide) (by decide) hN (fun d hd => by
      have := good_fac d hd
      simp only [Bool.and_eq_true] at this
      exact this.2) fun v d H' hd eb hp' q => by
        have := good_fac d hd
        simp only [Bool.and_eq_true] at this
        exact k v d H' eb hp' q this.1 this.2
    exact eds_cons ed_W (eds_cons ed_W (eds_cons ed_W (eds_cons ed_W (eds_cons ed_W (eds_cons ed_W (eds_cons ed_W (eds_cons ed_W eds_nil)))))))
theorem noL_tk {i : Nat} {t : Tk} (h : TkOk i t) (hi : i < 64) : noL (tkD t) = true := by
  have h1 : noL (parD t.par) = true := by
    cases hp : t.par with
    | none => rfl
    | some q =>
      have := h.lt q hp
      show decide (((q : Int)).natAbs < 2 ^ 64) = true
      exact decide_eq_true (by
        have : (2 : Nat) ^ 64 = 18446744073709551616 := by decide
        omega)
  simp only [tkD, noL, noLA, h1, h.nlp, h.nlf, Bool.and_self]
theorem parV_dq {K : PySem.W.Frag} {p : Addr} {H : Hp} (o : Option Nat) : Dq K p H (parV o) (parD o) := by
  cases o with
  | none => exact .non
  | some n => exact .int _
def spForestL (K : PySem.W.Frag) : Sp := fun vs H Q _ => ∃ (p a : Addr) (N : Nat), vs = [.ref p, .int 8] ∧ Pen H p a N ∧ N ≤ 80000 ∧ ∀ v fs H', ExB p H H' → Pen H' p a (N + 40) → Dq K p H' v (fsD fs) → FsOk fs → Q v H'
theorem ok__law_forest (T : Txt K mg) : FnOk P w K mg base CX0 4 T.d__law_forest.a T.d__law_forest.fd ["_law_pen_here", "_law_most"] (spForestL K) := by
  refine T.d__law_forest.F.ok sc__law_forest (fun vs H Q E h => ?_) (fun cdv A outer s H vs Q E hr h => ?_)
  · obtain ⟨p, a, N, rfl, _⟩ := h
    rfl
  · obtain ⟨p, a, N, rfl, hp, hN, k⟩ := h
    refine ⟨_, (pss_cons (ps_set (i := 2) sc__law_forest.nd rfl (Or.inl rfl) (pe_lst pa_nil))
      (pss_cons (ps_for PassesOwn.never rfl (pi_range1 (by rfl) T.n_range (pa_cons (pe_op op_add pe_int (pe_call (ok__law_draw T) (hr.mono (by decide)) (by rfl) T.d__law_draw.g T.d__law_draw.F.kp T.d__law_draw.b .nil pass0 (pa_cons (pv 0) (pa_cons (pv 1) pa_nil)))) pa_nil)) (pg_name (i := 3) sc__law_forest.nd rfl (Or.inl rfl)) (pss_cons (ps_set (i := 4) sc__law_forest.nd rfl (Or.inl rfl) (pe_call (ok__law_draw T) (hr.mono (by decide)) (by rfl) T.d__law_draw.g T.d__law_draw.F.kp T.d__law_draw.b .nil pass0 (pa_cons (pv 0) (pa_cons pe_int pa_nil))))
      (pss_cons (ps_set (i := 5) sc__law_forest.nd rfl (Or.inl rfl) (pe_ifExp (PW.pt (pw_or (pt_cmpR op_eq (pv 3) pe_int (nomark _)) (pw_or1 (pt_cmpR op_eq (pv 4) pe_int (nomark _))))) pe_non (pe_ix ix_list (pe_lst (pa_cons (pe_op op_sub (pv 3) pe_int) (pa_cons pe_int (pa_cons (pe_call (ok__law_draw T) (hr.mono (by decide)) (by rfl) T.d__law_draw.g T.d__law_draw.F.kp T.d__law_draw.b .nil pass0 (pa_cons (pv 0) (pa_cons (pv 3) pa_nil))) pa_nil)))) (pe_op op_sub (pv 4) pe_int) (fun _ _ => rfl))))
      (pss_one (ps_expr (pe_bm PySem.F.plainAttrs_list PySem.F.slot_list_append PySem.F.type_list_append mt_append (pv 2) (pa_cons (pe_tup (pa_cons (pv 5) (pa_cons (pe_call (ok__law_pay T) (hr.mono (by decide)) (by rfl) T.d__law_pay.g T.d__law_pay.F.kp T.d__law_pay.b .nil pass0 (pa_cons (pv 0) pa_nil)) (pa_cons (pe_call (ok__law_factor T) (hr.mono (by decide)) (by rfl) T.d__law_factor.g T.d__law_factor.F.kp T.d__law_factor.b .nil pass0 (pa_cons (pv 0) pa_nil)) pa_nil)))) pa_nil)))))))
      (pss_one (ps_ret (pe_callTy call_tuple_of (by rfl) T.n_tuple (by decide +kernel) (pa_cons (pv 2) pa_nil)))))), ?_⟩
    refine n_seq ?_
    refine ⟨by show 0 ≤ sizeLine; decide, fun l fl => ?_⟩
    have e0 := Ex.new (o := .lst []) fl
    have hp0 := hp.ex e0
    obtain ⟨xp, hxp⟩ := hp.hasP
    obtain ⟨xa, hxa⟩ := hp.hasC
    have nlp : l ≠ p := (ne_of_none hxp fl).symm
    have nla : l ≠ a := (ne_of_none hxa fl).symm
    dsimp only
    refine n_seq ?_
    refine ⟨.ref p, rfl, .int 8, rfl, p, a, 8, N, rfl, hp0, by decide, by decide, by omega, fun r H1 r0 r8 eb1 hp1 => ⟨1, r, rfl, rfl, 1 + r, rfl, by omega, by omega, ?_⟩⟩
    refine for_range (lo := 0) (n := (1 + r).toNat) (fun j σ G => ∃ (zs : List V) (ts : List Tk) (y3 y4 y5 : Option V), σ = [some (.ref p), some (.int 8), some (.ref l), y3, y4, y5] ∧ ExB p H G ∧ Pen G p a (N + 1 + 4 * j) ∧ G l = some (.lst zs) ∧ DqAll K p G zs (ts.map tkD) ∧ ts.length = j ∧ (∀ i t, ts[i]? = some t → TkOk i t))
      ⟨[], [], none, none, none, rfl, (Ex.b e0).trans eb1, hp1, eb1 _ _ nlp upd_same, .nil, rfl, fun i t z => by simp at z⟩ ?_ ?_
    · rintro j σ G hj ⟨zs, ts, y3, y4, y5, rfl, eb, hpG, hz, qs, tl, oks⟩
      have nlT : noLA (ts.map tkD) = true := noLA_of fun d hd => by
        obtain ⟨t, ht, rfl⟩ := List.mem_map.mp hd
        obtain ⟨i, hi, e⟩ := List.getElem_of_mem ht
        exact noL_tk (oks i t (by rw [List.getElem?_eq_getElem hi, e])) (by omega)
      have j8 : j < 8 := by omega
      refine n_name ?_
      dsimp only
      refine n_seq ?_
      refine ⟨_, rfl, p, a, 4, _, rfl, hpG, by decide, by decide, by omega, fun r4 G1 r40 r44 eb1' hp1' => ?_⟩
      dsimp only
      have hz1 := eb1' _ _ nlp hz
      obtain ⟨xg, hxg⟩ := hpG.hasP
      have qs1 : DqAll K p G1 zs (ts.map tkD) := DqAll.nl hxg eb1' _ _ nlT qs
      have ebA := eb.trans eb1'
      clear hz qs eb eb1' hxg
      -- the parent
      refine s_join (fun σ G2 => ∃ o : Option Nat, σ = [some (.ref p), some (.int 8), some (.ref l), some (.int (0 + (j : Nat))), some (.int r4), some (parV o)] ∧ (∀ q, o = some q → q < j) ∧ ExB p G1 G2 ∧ Pen G2 p a (N + 3 + 4 * j)) (fun NX hNX => ?_) ?_
      · refine (et_or (et_test (ev_op (ev_var rfl) ev_c (rv_eq rfl))) fun _ => et_test (ev_op (ev_var rfl) ev_c (rv_eq rfl))) G1 (Ex.refl _) _ fun G2 e2 => ?_
        have hp2 := hp1'.ex e2
        have c0 : (decide (V.int (0 + ((j : Nat) : Int)) = V.int 0) || decide (V.int r4 = V.int 0)) = decide (j = 0 ∨ r4 = 0) := by
          rw [Bool.eq_iff_iff, Bool.or_eq_true, decide_eq_true_iff, decide_eq_true_iff, decide_eq_true_iff, V.int.injEq, V.int.injEq]
          omega
        rw [c0]
        by_cases c : j = 0 ∨ r4 = 0
        · rw [decide_eq_true c]
          refine iteT ?_
          exact hNX _ _ ⟨none, rfl, fun q z => (nomatch z), Ex.b e2, hp2.mono (by omega)⟩
        · rw [decide_eq_false c]
          refine iteF ?_
          have j1 : 1 ≤ j := by omega
          refine ⟨_, rfl, _, _, rfl, rfl, _, rfl, _, rfl, p, a, _, _, rfl, hp2, by omega, by omega, by omega, fun rd G3 rd0 rd1 eb3 hp3 => ⟨by show 3 ≤ sizeLine; decide, fun l3 f3 => ?_⟩⟩
          have x3 := Ex.new (o := .lst [V.int (0 + ((j : Nat) : Int) - 1), .int 0, .int rd]) f3
          obtain ⟨q, q0, qj, hq⟩ : ∃ q : Int, 0 ≤ q ∧ q < (j : Nat) ∧ atI [V.int (0 + ((j : Nat) : Int) - 1), .int 0, .int rd] (r4 - 1) = some (.int q) := by
            obtain rfl | rfl | rfl : r4 = 1 ∨ r4 = 2 ∨ r4 = 3 := by omega
            · exact ⟨0 + (j : Nat) - 1, by omega, by omega, rfl⟩
            · exact ⟨0, by omega, by omega, rfl⟩
            · exact ⟨rd, rd0, by omega, rfl⟩
          refine ⟨_, rfl, _, _, rfl, rfl, l3, _, _, .int q, rfl, rfl, SqL.of upd_same, hq, hNX _ _ ⟨some q.toNat, ?_, fun q' z => ?_, (Ex.b e2).trans (eb3.trans (Ex.b x3)), (hp3.ex x3).mono (by omega)⟩⟩
          · show _ = [_, _, _, _, _, some (V.int ((q.toNat : Nat) : Int))]
            rw [show ((q.toNat : Nat) : Int) = q by omega]
            rfl
          · cases z
            omega
      · rintro σ G2 ⟨o, rfl, ho, eb2, hp2⟩
        have hz2 := eb2 _ _ nlp hz1
        obtain ⟨x1, hx1⟩ := hp1'.hasP
        have qs2 : DqAll K p G2 zs (ts.map tkD) := DqAll.nl hx1 eb2 _ _ nlT qs1
        have ebB := ebA.trans eb2
        clear qs1 eb2 hz1 hp1' hx1 ebA
        refine ⟨_, rfl, .inl ⟨rfl, _, SqL.of hz2⟩, _, rfl, _, rfl, p, a, _, rfl, hp2, by omega, fun v1 d1 G3 eb3 hp3 q1 f1 n1 => ?_⟩
        obtain ⟨x2, hx2⟩ := hp2.hasP
        obtain ⟨x3, hx3⟩ := hp3.hasP
        refine ⟨_, rfl, p, a, _, rfl, hp3, by omega, fun v2 d2 G4 eb4 hp4 q2 f2 n2 => ?_⟩
        refine ⟨by show 3 ≤ sizeLine; decide, fun t ft => ?_⟩
        have hz4 := eb4 _ _ nlp (eb3 _ _ nlp hz2)
        have x5 := Ex.new (o := .tup [parV o, v1, v2]) ft
        have zl : zs.length = j := by rw [qs2.len, List.length_map, tl]
        have q4 : DqAll K p G4 zs (ts.map tkD) := DqAll.nl hx2 (eb3.trans eb4) _ _ nlT qs2
        have q14 : Dq K p G4 v1 d1 := Dq.nl hx3 eb4 _ _ n1 q1
        have tk : TkOk j ⟨o, d1, d2⟩ := ⟨ho, f1, f2, n1, n2⟩
        have hz5 := x5 _ _ hz4
        have up : ExB l (upd G4 t (.tup [parV o, v1, v2])) (upd (upd G4 t (.tup [parV o, v1, v2])) l (.lst (zs ++ [.ref t]))) := ExB.upd (ExB.refl l _)
        have qt : Dq K p (upd G4 t (.tup [parV o, v1, v2])) (.ref t) (tkD ⟨o, d1, d2⟩) := .tup (SqT.of upd_same) (.cons (parV_dq o) (.cons (Dq.ex x5 _ _ q14) (.cons (Dq.ex x5 _ _ q2) .nil)))
        refine ⟨l, zs, .ref t, rfl, rfl, hz5, small1000 (by omega), ?_⟩
        refine ⟨zs ++ [.ref t], ts ++ [⟨o, d1, d2⟩], _, _, _, rfl, fun b ob nb hb => ?_, ((hp4.ex x5).upd nlp nla).mono (by omega), upd_same, ?_, by rw [List.length_append, tl]; rfl, fun i t' ht' => ?_⟩
        · rw [upd_ne (ne_of_none hb fl)]
          exact x5 _ _ (eb4 _ _ nb (eb3 _ _ nb (ebB _ _ nb hb)))
        · rw [List.map_append]
          exact (DqAll.nl hz5 up _ _ nlT (DqAll.ex x5 _ _ q4)).append (.cons (Dq.nl hz5 up _ _ (noL_tk tk (by omega)) qt) .nil)
        · by_cases c : i < j
          · rw [List.getElem?_append_left (by omega)] at ht'
            exact oks i t' ht'
          · rw [List.getElem?_append_right (by omega), tl] at ht'
            have hi : i = j := by
              have := (List.getElem?_eq_some_iff.mp ht').1
              simp at this
              omega
            subst hi
            rw [Nat.sub_self] at ht'
            simp only [List.getElem?_cons_zero, Option.some.injEq] at ht'
            subst ht'
            exact tk
    · rintro σ G ⟨zs, ts, y3, y4, y5, rfl, eb, hpG, hz, qs, tl, oks⟩
      refine ⟨_, rfl, l, zs, rfl, .inl ⟨SqL.of hz, fun t ft => ?_⟩⟩
      have x1 := Ex.new (o := .tup zs) ft
      exact k (.ref t) ts _ (eb.trans (Ex.b x1)) ((hpG.ex x1).mono (by omega)) (.tup (SqT.of upd_same) (DqAll.ex x1 _ _ qs)) ⟨by omega, by omega, oks⟩
end
/-! ### the law's own terms -/
theorem ne_emp (ds : List PyData) : PyData.eqv (.list ds) (.list []) = ds.isEmpty := by
  cases ds with
  | nil => rfl
  | cons d ds => simp [PyData.eqv, PyData.eqvAll]
section
variable {P : Program} {w : World} {K : PySem.W.Frag} {mg : Str → Option Value} {base : Heap}
def spTog (K : PySem.W.Frag) (k : Nat) : Sp := fun vs H Q _ => ∃ (p l : Addr) (xs : List V) (ds : List PyData), vs = [.ref l] ∧ H l = some (.lst xs) ∧ DqAll K p H xs ds ∧ ds.length ≤ 2 * k + 3 ∧ noLA ds = true ∧ PyData.depthAll ds ≤ 60 ∧ ∀ v H', Ex H H' → Dq K p H' v (pioD ds) → Q v H'
def spTogB (K : PySem.W.Frag) (k : Nat) : Sp := fun vs H Q E => ∃ j, k = 1 + j ∧ spTog K j vs H Q E
theorem ok_tog_of (T : Txt K mg) (k : Nat) (ih : FnOk P w K mg base CX0 k T.d__law_together.a T.d__law_together.fd ["_law_terms"] (spTogB K k)) : FnOk P w K mg base CX0 (k + 1) T.d__law_together.a T.d__law_together.fd ["_law_terms"] (spTog K k) := by
  refine (T.d__law_together.F.ok (k := k) sc__law_together (fun vs H Q E h => ?_) fun cdv A outer s H vs Q E hr h => ?_)
  · obtain ⟨p, l, xs, ds, rfl, _⟩ := h
    rfl
  · obtain ⟨p, l, xs, ds, rfl, hl, hA, hn, nl, dp, kk⟩ := h
    refine ⟨_, (pss_cons (ps_if (pt_cmpR (op_eqD hr.units) (pv 0) (pe_lst pa_nil) (nomark _)) (pss_one (ps_ret (pe_tup (pa_cons pe_str pa_nil)))) pss_nil)
      (pss_cons (ps_if (pt_cmpR op_eq (pe_callB call_len_seq (by rfl) T.n_len (by decide +kernel) (pa_cons (pv 0) pa_nil)) pe_int (nomark _)) (pss_one (ps_ret (pe_ix ix_list (pv 0) pe_int (fun _ _ => rfl)))) pss_nil)
      (pss_cons (ps_if (pt_cmpR op_lt (pe_callB call_len_seq (by rfl) T.n_len (by decide +kernel) (pa_cons (pv 0) pa_nil)) pe_int (nomark _)) (pss_one (ps_ret (pe_tup (pa_cons pe_str (pa_cons (pe_callTy call_tuple_of (by rfl) T.n_tuple (by decide +kernel) (pa_cons (pv 0) pa_nil)) pa_nil))))) pss_nil)
      (pss_one (ps_ret (pe_tup (pa_cons pe_str (pa_cons (pe_tup (pa_cons (pe_ix ix_list (pv 0) pe_int (fun _ _ => rfl)) (pa_cons (pe_ix ix_list (pv 0) pe_int (fun _ _ => rfl)) (pa_cons (pe_call ih (hr.mono (by omega)) (by rfl) T.d__law_together.g T.d__law_together.F.kp T.d__law_together.b .nil pass0 (pa_cons (pe_slice sl_list (pv 0) (po_some pe_int) po_none) pa_nil)) pa_nil)))) pa_nil)))))))), ?_⟩
    have xl : xs.length = ds.length := hA.len
    refine ⟨_, rfl, by show 0 ≤ sizeLine; decide, fun l0 fl => ?_⟩
    have e1 := Ex.new (o := .lst []) fl
    have nc : SeqAt.shaped (.list ds) = true := by
      unfold SeqAt.shaped
      rw [Bool.and_eq_true]
      refine ⟨by simpa [PyData.canLay0] using (noLA_lay ds nl).1, decide_eq_true ?_⟩
      show PyData.depthAll ds + 1 ≤ 64
      omega
    refine ⟨.list ds, .list [], .lst (SqL.of (e1 _ _ hl)) (DqAll.dp _ _ (noLA_lay ds nl).2 (DqAll.ex e1 _ _ hA)), .lst (SqL.of upd_same) .nil, nc, rfl, _, rfl, ?_⟩
    rw [ne_emp]
    have hl1 := e1 _ _ hl
    have hA1 := DqAll.ex e1 _ _ hA
    generalize upd H l0 (.lst []) = H1 at e1 hl1 hA1
    cases ds with
    | nil =>
      refine iteT ?_
      refine s_retP (ed_tup (K := K) (p := p) (ds := [.str "end"]) (eds_cons ed_str eds_nil) (by decide)) fun v H2 e2 q => kk v H2 (e1.trans e2) q
    | cons d1 ds =>
    refine iteF ?_
    refine n_next ?_
    dsimp only
    refine n_seq ?_
    cases ds with
    | nil =>
      refine (et_test (ev_op (ev_lenL rfl hl1) ev_c (rv_eq rfl))) H1 (Ex.refl _) _ fun H2 e2 => ?_
      rw [xl]
      refine iteT ?_
      refine ed_ixL (K := K) (p := p) (j := 0) (dj := d1) rfl (e2 _ _ hl1) (DqAll.ex e2 _ _ hA1) rfl H2 (Ex.refl _) _ fun x H3 e3 q => ?_
      exact kk x H3 ((e1.trans e2).trans e3) q
    | cons d2 ds =>
    refine (et_test (ev_op (ev_lenL rfl hl1) ev_c (rv_eq rfl))) H1 (Ex.refl _) _ fun H2 e2 => ?_
    rw [decide_eq_false (p := V.int (xs.length : Int) = V.int 1) (fun z => by
      have := V.int.inj z
      simp only [List.length_cons] at xl
      omega)]
    have hl2 := e2 _ _ hl1
    have hA2 := DqAll.ex e2 _ _ hA1
    refine iteF ?_
    refine n_next ?_
    dsimp only
    refine n_seq ?_
    refine (et_test (ev_op (ev_lenL rfl hl2) ev_c rv_I0)) H2 (Ex.refl _) _ fun H3 e3 => ?_
    have hl3 := e3 _ _ hl2
    have hA3 := DqAll.ex e3 _ _ hA2
    have E3 := (e1.trans e2).trans e3
    by_cases h3 : ds.length ≤ 1
    · rw [decide_eq_true (p := (xs.length : Int) < 4) (by
        simp only [List.length_cons] at xl
        omega)]
      refine iteT ?_
      refine s_retP (ed_tup (K := K) (p := p) (ds := [.str "all", .tuple (d1 :: d2 :: ds)]) (eds_cons ed_str (eds_cons (ed_tupL rfl hl3 hA3) eds_nil)) (by show 2 ≤ 1000; decide)) fun v H4 e4 q => kk v H4 (E3.trans e4) ?_
      match ds, h3, q with
      | [], _, q => exact q
      | [_], _, q => exact q
    · rw [decide_eq_false (p := (xs.length : Int) < 4) (by
        simp only [List.length_cons] at xl
        omega)]
      refine iteF ?_
      refine n_next ?_
      match ds, h3, hA3, hn, kk, xl, nl, dp with
      | [], h3, _, _, _, _, _, _ => exact absurd (Nat.zero_le 1) h3
      | [_], h3, _, _, _, _, _, _ => exact absurd (Nat.le_refl 1) h3
      | d3 :: d4 :: dr, _, hA3, hn, kk, xl, nl, dp =>
        simp only [List.length_cons] at hn xl
        obtain ⟨j, rfl⟩ : ∃ j, k = 1 + j := ⟨k - 1, by omega⟩
        dsimp only
        simp only [noLA, Bool.and_eq_true] at nl
        have dp2 : PyData.depthAll (d3 :: d4 :: dr) ≤ 60 := by
          have h1 : PyData.depthAll (d1 :: d2 :: d3 :: d4 :: dr) = max d1.depth (max d2.depth (PyData.depthAll (d3 :: d4 :: dr))) := rfl
          omega
        have e2 : HT.sIx xs.length 0 (some 2) = min 2 xs.length := HT.sIx_nat xs.length 0 2
        have cc : cutV xs (some 2) none = xs.drop 2 := by
          unfold cutV
          rw [e2, HT.sIx_none, Nat.min_eq_left (by omega), List.take_of_length_le (by rw [List.length_drop]; omega)]
        have call : EvD K p (tCall (spTogB K (1 + j)) [] E0 (tCons (tSl (rSlL K) (tVar 0) (tPart (tC (.int 2))) tNoPart) tNil)) [some (.ref l)] H3 (pioD (d3 :: d4 :: dr)) := fun H4 e4 Q' kk' =>
          ⟨_, rfl, 2, rfl, l, xs, rfl, SqL.of (e4 _ _ hl3), fun t ft => ⟨j, rfl, p, t, xs.drop 2, d3 :: d4 :: dr, rfl, by rw [cc]; exact upd_same, (DqAll.ex (e4.trans (Ex.new ft)) _ _ hA3).drop 2, by simp only [List.length_cons]; omega, by simp only [noLA, nl.2.2.1, nl.2.2.2.1, nl.2.2.2.2, Bool.and_self], dp2, fun v H5 e5 q => kk' v H5 ((Ex.new ft).trans e5) q⟩⟩
        refine s_retP (ed_tup (K := K) (p := p) (ds := [.str "all", .tuple [d1, d2, pioD (d3 :: d4 :: dr)]]) (eds_cons ed_str (eds_cons (ed_tup (eds_cons (ed_ixL (j := 0) (dj := d1) rfl hl3 hA3 rfl) (eds_cons (ed_ixL (j := 1) (dj := d2) rfl hl3 hA3 rfl) (eds_cons call eds_nil))) (by show 3 ≤ 1000; decide)) eds_nil)) (by show 2 ≤ 1000; decide)) fun v H4 e4 q => kk v H4 (E3.trans e4) q
theorem ok__law_together (T : Txt K mg) : ∀ k, FnOk P w K mg base CX0 (k + 1) T.d__law_together.a T.d__law_together.fd ["_law_terms"] (spTog K k)
  | 0 => ok_tog_of T 0 ⟨fun _ _ _ _ ⟨j, z, _⟩ => by omega, fun _ _ _ _ _ _ _ _ _ _ _ _ _ ⟨j, z, _⟩ => by omega⟩
  | k + 1 => ok_tog_of T (k + 1) ⟨fun vs H Q E ⟨j, z, h⟩ => by
      obtain rfl : j = k := by omega
      exact (ok__law_together T j).len _ _ _ _ h, fun A outer s H args us vs Q E hr e0 hb hv ⟨j, z, h⟩ => by
      obtain rfl : j = k := by omega
      exact (ok__law_together T j).run A outer s H args us vs Q E hr e0 hb hv h⟩
end
section
variable {K : PySem.W.Frag} {p : Addr} {σ : L2.St} {H : Hp} {ta tb : TE} {d : PyData} {tt : TT}
theorem ed_if {b : Bool} (h : EvT tt σ H b) (h1 : b = true → EvD K p ta σ H d) (h2 : b = false → EvD K p tb σ H d) : EvD K p (tIf tt ta tb) σ H d := fun H1 e Q k => h H1 e _ fun H2 e2 => by
  cases b with
  | true =>
    refine iteT ?_
    exact h1 rfl H2 (e.trans e2) Q fun v H3 e3 q => k v H3 (e2.trans e3) q
  | false =>
    refine iteF ?_
    exact h2 rfl H2 (e.trans e2) Q fun v H3 e3 q => k v H3 (e2.trans e3) q
end
section
variable {P : Program} {w : World} {K : PySem.W.Frag} {mg : Str → Option Value} {base : Heap}
def spLTm (K : PySem.W.Frag) (k : Nat) : Sp := fun vs H Q _ => ∃ (p : Addr) (v : V) (fs : List Tk) (o : Option Nat), vs = [v, parV o] ∧ Dq K p H v (fsD fs) ∧ FsOk fs ∧ fs.length ≤ lowO o + k ∧ ∀ x H', Ex H H' → Dq K p H' x (kidsTm fs k o) → Q x H'
def spLTmB (K : PySem.W.Frag) (k : Nat) : Sp := fun vs H Q E => ∃ j, k = 1 + j ∧ spLTm K j vs H Q E
theorem ok_lt_of (T : Txt K mg) (k : Nat) (ih : FnOk P w K mg base CX0 (k + 5) T.d__law_term.a T.d__law_term.fd ["_law_forest_here", "_law_parent"] (spLTmB K k)) : FnOk P w K mg base CX0 (k + 6) T.d__law_term.a T.d__law_term.fd ["_law_forest_here", "_law_parent"] (spLTm K k) := by
  refine (T.d__law_term.F.ok (k := k + 5) sc__law_term (fun vs H Q E h => ?_) fun cdv A outer s H vs Q E hr h => ?_)
  · obtain ⟨p, v, fs, o, rfl, _⟩ := h
    rfl
  · obtain ⟨p, v, fs, o, rfl, hd, ok, hk, kk⟩ := h
    refine ⟨_, (pss_cons (ps_set (i := 2) sc__law_term.nd rfl (Or.inl rfl) (pe_lst pa_nil))
      (pss_cons (ps_for PassesOwn.never rfl (pi_enumT (by rfl) T.n_enumerate (pa_cons (pv 0) pa_nil)) (pg_tup (by rfl) (pgs_cons (pg_name (i := 3) sc__law_term.nd rfl (Or.inl rfl)) (pgs_cons (pg_tup (by rfl) (pgs_cons (pg_name (i := 4) sc__law_term.nd rfl (Or.inl rfl)) (pgs_cons (pg_name (i := 5) sc__law_term.nd rfl (Or.inl rfl)) (pgs_cons (pg_name (i := 6) sc__law_term.nd rfl (Or.inl rfl)) pgs_nil)))) pgs_nil))) (pss_one (ps_if (PW.pt (pw_and (pt_cmpR op_eq (pv 4) (pv 1) (nomark _)) (pw_and1 (PW.pt (pw_or (pt_cmpR op_notN (pv 1) pe_non (nomark _)) (pw_or1 (pt_cmpR op_isN (pv 4) pe_non (nomark _)))))))) (pss_cons (ps_set (i := 7) sc__law_term.nd rfl (Or.inl rfl) (pe_ifExp (pt_cmpR (op_neD hr.units) (pv 6) (pe_tup (pa_cons pe_int (pa_cons pe_int pa_nil))) (nomark _)) (pe_call ih (hr.mono (by omega)) (by rfl) T.d__law_term.g T.d__law_term.F.kp T.d__law_term.b .nil pass0 (pa_cons (pv 0) (pa_cons (pv 3) pa_nil))) pe_non))
      (pss_one (ps_expr (pe_bm PySem.F.plainAttrs_list PySem.F.slot_list_append PySem.F.type_list_append mt_append (pv 2) (pa_cons (pe_tup (pa_cons pe_str (pa_cons (pv 5) (pa_cons (pe_ifExp (pt_cmpR (op_neD hr.units) (pv 6) (pe_tup (pa_cons pe_int (pa_cons pe_int pa_nil))) (nomark _)) (pe_tup (pa_cons (pe_tup (pa_cons (pv 6) (pa_cons (pv 7) pa_nil))) pa_nil)) (pe_tup pa_nil)) pa_nil)))) pa_nil))))) pss_nil)))
      (pss_one (ps_ret (pe_call (ok__law_together T 3) (hr.mono (by first | decide | omega)) (by rfl) T.d__law_together.g T.d__law_together.F.kp T.d__law_together.b .nil pass0 (pa_cons (pv 2) pa_nil)))))), ?_⟩
    obtain ⟨a, xs, rfl, hS, hA⟩ := hd.seq
    have xl : xs.length = fs.length := by rw [hA.len, List.length_map]
    have l8 := ok.most
    have inK : ∀ i, i < fs.length → hasPar fs o i = true → i ∈ kidsN fs o := fun i hi h => by
      unfold kidsN kidsT
      rw [List.mem_filter, List.mem_range]
      exact ⟨hi, h⟩
    have nlT : ∀ i, noLA ((kidsT fs o i).map (tkT fs k)) = true := fun i => noLA_of fun d hd => by
      obtain ⟨m, hm, rfl⟩ := List.mem_map.mp hd
      unfold kidsT at hm
      rw [List.mem_filter, List.mem_range] at hm
      by_cases c : m < fs.length
      · obtain ⟨h1, h2⟩ := kids_of ok (inK m c hm.2)
        exact (tkT_nc ok k m h2 (by omega)).1
      · have h := of_decide_eq_true hm.2
        rw [List.getElem?_eq_none (by omega)] at h
        cases h
    refine n_seq ?_
    refine ⟨by show 0 ≤ sizeLine; decide, fun l fl => ?_⟩
    have e0 := Ex.new (o := .lst []) fl
    dsimp only
    refine n_seq ?_
    refine ⟨.ref a, rfl, a, xs, rfl, ex_t e0 hS, ?_⟩
    refine for_it (walk_enumT (K := K) (a := a) (xs := xs)) (fun i σ G => ∃ (zs : List V) (y3 y4 y5 y6 y7 : Option V), σ = [some (.ref a), some (parV o), some (.ref l), y3, y4, y5, y6, y7] ∧ Ex H G ∧ G l = some (.lst zs) ∧ DqAll K p G zs ((kidsT fs o i).map (tkT fs k)))
      ⟨[], none, none, none, none, none, rfl, e0, upd_same, .nil⟩ (fun i σ G _ h => by
        obtain ⟨_, _, _, _, _, _, _, ex, _⟩ := h
        exact ex_t ex hS) ?_ ?_
    · rintro i x σ G G' hi ⟨zs, y3, y4, y5, y6, y7, rfl, ex, hz, qs⟩ ⟨T0, nx, y, rfl, hT0, rfl, h1, h2⟩
      cases h1
      obtain ⟨t, ht, qt⟩ := hA.map_get h2
      have hif : i < fs.length := by omega
      have ot := ok.ok i t ht
      have x1 := ex.trans (Ex.new (o := .tup [.int (i : Nat), y]) hT0)
      have nT : l ≠ T0 := ne_of_none hz hT0
      obtain ⟨b, z0, z1, z2, rfl, hb, q0, q1, q2⟩ := (Dq.ex x1 _ _ qt).tk
      have e0 := par_V q0
      subst e0
      have hz1 : (upd G T0 (.tup [.int (i : Nat), .ref b])) l = some (.lst zs) := by rw [upd_ne nT]; exact hz
      have qs1 := DqAll.ex (Ex.new (o := .tup [.int (i : Nat), .ref b]) hT0) _ _ qs
      have hp : hasPar fs o i = decide (t.par = o) := by
        unfold hasPar
        rw [ht, Option.map_some, Bool.eq_iff_iff, decide_eq_true_iff, decide_eq_true_iff, Option.some.injEq]
      refine ⟨T0, _, rfl, SqT.of upd_same, rfl, _, _, rfl, _, _, rfl, b, _, rfl, hb, rfl, _, _, rfl, _, _, rfl, _, _, rfl, rfl, rfl, ?_⟩
      dsimp only
      generalize hG1 : upd G T0 (.tup [.int (i : Nat), .ref b]) = G1 at x1 q1 q2 hb q0 hz1 qs1
      have bb : (decide (parV t.par = parV o) && ((!decide (parV o = .non)) || decide (parV t.par = .non))) = decide (t.par = o) := by
        rw [parV_eq]
        by_cases c : t.par = o
        · subst c
          cases t.par <;> simp [parV]
        · rw [decide_eq_false c, Bool.false_and]
      refine (et_is (et_and (et_test (ev_op (ev_var rfl) (ev_var rfl) (rv_eq (parV_scal _ _)))) fun _ => et_or (et_test (ev_op (ev_var rfl) ev_c fun H1 _ _ k => ⟨rfl, k H1 (Ex.refl H1)⟩)) fun _ => et_test (ev_op (ev_var rfl) ev_c fun H1 _ _ k => ⟨rfl, k H1 (Ex.refl H1)⟩)) bb) G1 (Ex.refl _) _ fun G2 e2 => ?_
      have hz2 := e2 _ _ hz1
      have zl : zs.length ≤ 8 := by
        rw [qs.len, List.length_map]
        have := kidsT_len fs o i
        omega
      rw [← hp]
      cases hc : hasPar fs o i with
      | false =>
        refine iteF ?_
        refine n_next ?_
        refine ⟨zs, _, _, _, _, _, rfl, x1.trans e2, hz2, ?_⟩
        rw [kidsT_succ, hc, if_neg (by decide), List.append_nil]
        exact DqAll.ex e2 _ _ qs1
      | true =>
      obtain ⟨hlo, _⟩ := kids_of ok (inK i hif hc)
      obtain ⟨j, rfl⟩ : ∃ j, k = 1 + j := ⟨k - 1, by omega⟩
      have f2 := q2.facFr ot.fac ot.nlf
      have e1j : 1 + j = j + 1 := by omega
      have et : fs[i] = t := by
        have := List.getElem?_eq_getElem hif
        rw [ht] at this
        exact (Option.some.inj this).symm
      have tk : tkT fs (1 + j) i = .tuple [.str "step", t.pay, .tuple (if frQ t.fac = 0 then [] else [.tuple [t.fac, pioD ((kidsN fs (some i)).map (tkT fs j))]])] := by
        rw [e1j]
        show (match fs[i]? with | none => _ | some t => _) = _
        rw [ht]
      have zt : ∀ {σ : L2.St} {H : Hp}, EvP (tTup (tCons (tC (.int 0)) (tCons (tC (.int 1)) tNil))) σ H (Fr K 1 0) := fun {σ H} => ep_tup ev_c ev_c rfl rfl ⟨by decide, by decide⟩
      have fin : ∀ {G3 : Hp} {y7 : Option V} {v : V}, Ex G1 G3 → Dq K p G3 v (tkT fs (1 + j) i) → ∃ (zs' : List V) (w3 w4 w5 w6 w7 : Option V), [some (V.ref a), some (parV o), some (V.ref l), some (V.int (i : Nat)), some (parV t.par), some z1, some z2, y7] = [some (.ref a), some (parV o), some (.ref l), w3, w4, w5, w6, w7] ∧ Ex H (upd G3 l (.lst (zs ++ [v]))) ∧ (upd G3 l (.lst (zs ++ [v]))) l = some (.lst zs') ∧ DqAll K p (upd G3 l (.lst (zs ++ [v]))) zs' ((kidsT fs o (i + 1)).map (tkT fs (1 + j))) := fun {G3 y7 v} e3 qv => by
        have up : ExB l G3 (upd G3 l (.lst (zs ++ [v]))) := ExB.upd (ExB.refl l _)
        have hz3 := e3 _ _ hz1
        refine ⟨zs ++ [v], _, _, _, _, _, rfl, Ex.mut (x1.trans e3) fl, upd_same, ?_⟩
        rw [kidsT_succ, hc, if_pos rfl, List.map_append]
        exact (DqAll.nl hz3 up _ _ (nlT i) (DqAll.ex e3 _ _ qs1)).append (.cons (Dq.nl hz3 up _ _ (tkT_nc ok (1 + j) i hif (by omega)).1 qv) .nil)
      refine iteT ?_
      refine n_seq ?_
      by_cases c : frQ t.fac = 0
      · rw [if_pos c] at tk
        refine (et_is (b := false) (et_test (ev_neD (K := K) (ep_var rfl (f2.ex e2)) zt)) (by rw [decide_eq_true c]; rfl)) G2 (Ex.refl _) _ fun G3 e3 => ?_
        refine iteF ?_
        dsimp only
        refine ⟨_, rfl, .inl ⟨rfl, _, SqL.of (e3 _ _ hz2)⟩, ?_⟩
        refine (ed_tup (K := K) (p := p) (ds := [.str "step", t.pay, .tuple []]) (eds_cons ed_str (eds_cons (ed_var rfl (Dq.ex (e2.trans e3) _ _ q1)) (eds_cons (ed_if (b := false) (et_is (et_test (ev_neD (K := K) (ep_var rfl (f2.ex (e2.trans e3))) zt)) (by rw [decide_eq_true c]; rfl)) (fun z => nomatch z) fun _ => ed_tup eds_nil (by decide)) eds_nil))) (by show 3 ≤ 1000; decide)) G3 (Ex.refl _) _ fun v G4 e4 q => ?_
        exact ⟨l, zs, v, rfl, rfl, e4 _ _ (e3 _ _ hz2), small1000 (by omega), fin ((e2.trans e3).trans e4) (tk ▸ q)⟩
      · rw [if_neg c] at tk
        refine (et_is (b := true) (et_test (ev_neD (K := K) (ep_var rfl (f2.ex e2)) zt)) (by rw [decide_eq_false c]; rfl)) G2 (Ex.refl _) _ fun G3 e3 => ?_
        refine iteT ?_
        refine ⟨_, rfl, _, rfl, j, rfl, p, .ref a, fs, some i, rfl, Dq.ex ((x1.trans e2).trans e3) _ _ hd, ok, (by show fs.length ≤ i + 1 + j; omega), fun x G4 e4 qx => ?_⟩
        dsimp only
        have e14 := (e2.trans e3).trans e4
        refine ⟨_, rfl, .inl ⟨rfl, _, SqL.of (e14 _ _ hz1)⟩, ?_⟩
        refine (ed_tup (K := K) (p := p) (ds := [.str "step", t.pay, .tuple [.tuple [t.fac, pioD ((kidsN fs (some i)).map (tkT fs j))]]]) (eds_cons ed_str (eds_cons (ed_var rfl (Dq.ex e14 _ _ q1)) (eds_cons (ed_if (b := true) (et_is (et_test (ev_neD (K := K) (ep_var rfl (f2.ex e14)) zt)) (by rw [decide_eq_false c]; rfl)) (fun _ => ed_tup (eds_cons (ed_tup (eds_cons (ed_var rfl (Dq.ex e14 _ _ q2)) (eds_cons (ed_var rfl qx) eds_nil)) (by show 2 ≤ 1000; decide)) eds_nil) (by show 1 ≤ 1000; decide)) (fun z => nomatch z)) eds_nil))) (by show 3 ≤ 1000; decide)) G4 (Ex.refl _) _ fun v G5 e5 q => ?_
        exact ⟨l, zs, v, rfl, rfl, (e14.trans e5) _ _ hz1, small1000 (by omega), fin (e14.trans e5) (tk ▸ q)⟩
    · rintro σ G ⟨zs, y3, y4, y5, y6, y7, rfl, ex, hz, qs⟩
      rw [xl] at qs
      have dpT : ∀ ms : List Nat, (∀ m ∈ ms, m ∈ kidsN fs o) → PyData.depthAll (ms.map (tkT fs k)) ≤ 60 := fun ms => by
        induction ms with
        | nil => intro _; exact Nat.zero_le _
        | cons m ms ihm =>
          intro h
          obtain ⟨h1, h2⟩ := kids_of ok (h m (by simp))
          have d1 := (tkT_nc ok k m h2 (by omega)).2.dp
          have d2 := ihm fun x hx => h x (by simp [hx])
          show max _ _ ≤ 60
          omega
      refine ⟨_, rfl, p, l, zs, _, rfl, hz, qs, ?_, nlT _, dpT _ (fun m hm => hm), fun v H' e' q => kk v H' (ex.trans e') q⟩
      rw [List.length_map]
      have := kidsT_len fs o fs.length
      omega
theorem ok__law_term (T : Txt K mg) : ∀ k, FnOk P w K mg base CX0 (6 + k) T.d__law_term.a T.d__law_term.fd ["_law_forest_here", "_law_parent"] (spLTm K k)
  | 0 => ok_lt_of T 0 ⟨fun _ _ _ _ ⟨j, z, _⟩ => by omega, fun _ _ _ _ _ _ _ _ _ _ _ _ _ ⟨j, z, _⟩ => by omega⟩
  | k + 1 => by
    have e : 6 + (k + 1) = k + 1 + 6 := by omega
    rw [e]
    refine ok_lt_of T (k + 1) ⟨fun vs H Q E ⟨j, z, h⟩ => ?_, fun A outer s H args us vs Q E hr e0 hb hv ⟨j, z, h⟩ => ?_⟩
    · obtain rfl : j = k := by omega
      exact (ok__law_term T j).len _ _ _ _ h
    · obtain rfl : j = k := by omega
      exact ((ok__law_term T j).mono (by omega)).run A outer s H args us vs Q E hr e0 hb hv h
end
theorem ifF {c : Bool} {A B : Prop} (h : c = false) (x : B) : if c = true then A else B := by
  rw [h]
  exact iteF x
section
variable {K : PySem.W.Frag} {p a T : Addr} {σ : L2.St} {H H' : Hp} {N : Nat}
theorem tab_exb {xs : List V} (ht : GxR.TabG H T) (hp : H p = some (.lst xs)) (e : ExB p H H') : GxR.TabG H' T := by
  obtain ⟨ps, h1, h2⟩ := ht
  exact ⟨ps, e _ _ (by rintro rfl; rw [hp] at h1; cases h1) h1, h2⟩
theorem Pen.tb (h : Pen H p a N) (ht : GxR.TabG H T) (e : ExB T H H') : Pen H' p a N := by
  obtain ⟨cs, t, v, h1, h2, r⟩ := h
  exact ⟨cs, t, v, e _ _ (tab_ne ht h1 fun _ z => nomatch z) h1, e _ _ (tab_ne ht h2 fun _ z => nomatch z) h2, r⟩
end
/-! ### the law k55 -/
section
variable {P : Program} {w : World} {K : PySem.W.Frag} {mg : Str → Option Value} {base : Heap}
def spLaw (K : PySem.W.Frag) (T : Addr) : Sp := fun vs H Q _ => ∃ (a : Addr) (ns : List Int), vs = [.ref a] ∧ SqL K H a (ns.map V.int) ∧ ns.length ≤ 63 ∧ GxR.TabG H T ∧ ∀ H', Q (.bl true) H'
theorem ok_law (T : Txt K mg) (tb : GxR.TabB base mg T.c_is_forest T.P_is_forest) : FnG P w K mg base 27 T.d_law.a T.d_law.fd ["_law_script"] (spLaw K T.P_is_forest) := by
  refine okG T.d_law.F sc_law (fun vs H Q E h => ?_) (fun cdv A outer s H vs Q gd hr h => ?_)
  · obtain ⟨a, ns, rfl, _⟩ := h
    rfl
  · obtain ⟨a, ns, rfl, hS, hl, ht, k⟩ := h
    have hu := hr.units
    refine ⟨_, (pss_cons (ps_set (i := 1) sc_law.nd rfl (Or.inl rfl) (pe_call (ok__law_pen T) (hr.mono (by decide)) (by rfl) T.d__law_pen.g T.d__law_pen.F.kp T.d__law_pen.b .nil pass0 (pa_cons (pv 0) pa_nil)))
      (pss_cons (ps_for PassesOwn.never rfl (pi_range1 (by rfl) T.n_range (pa_cons pe_int pa_nil)) (pg_name (i := 2) sc_law.nd rfl (Or.inr rfl)) (pss_cons (ps_set (i := 3) sc_law.nd rfl (Or.inl rfl) (pe_call (ok__law_forest T) (hr.mono (by decide)) (by rfl) T.d__law_forest.g T.d__law_forest.F.kp T.d__law_forest.b .nil pass0 (pa_cons (pv 1) (pa_cons pe_int pa_nil))))
      (pss_cons (ps_if (pt_cmpR op_lt (pv 2) pe_int (nomark _)) (pss_one (ps_set (i := 3) sc_law.nd rfl (Or.inl rfl) (pe_callTy call_tuple_of (by rfl) T.n_tuple (by decide +kernel) (pa_cons (pe_lc (own := [("_law_number", 5), ("_law_task", 6)]) (g := gTup K 2 (gCons (gName 5) (gCons (gName 6) gNil))) (te := tOp (rCatT K) (tTup (tCons (tIf (tOr (tTest (tOp rEq (tVar 2) (tC (.int 0)))) (tTest (tOp rEq (tVar 5) (tC (.int 0))))) (tC .non) (tC (.int 0))) tNil)) (tSl (rSlA K) (tVar 6) (tPart (tC (.int 1))) tNoPart)) (tt := tYes) rfl sc_law.nd (pi_enumT (by rfl) T.n_enumerate (pa_cons (pv 3) pa_nil)) (blkOk_by (own := [("_law_number", 5), ("_law_task", 6)]) (N := n_law) (sc := defScope s_law) (by decide +kernel)) (fun _ _ _ _ _ => (pg_tup rfl (pgs_cons (pg_name (i := 5) sc_law.nd rfl (Or.inl rfl)) (pgs_cons (pg_name (i := 6) sc_law.nd rfl (Or.inl rfl)) pgs_nil)))) (fun _ _ _ _ _ => pts_nil) (fun _ _ _ _ _ => (pe_op op_catT (pe_tup (pa_cons (pe_ifExp (PW.pt (pw_or (pt_cmpR op_eq (pv 2) pe_int (nomark _)) (pw_or1 (pt_cmpR op_eq (pv 5) pe_int (nomark _))))) pe_non pe_int) pa_nil)) (pe_slice sl_tupA (pv 6) (po_some pe_int) po_none)))) pa_nil)))) pss_nil)
      (pss_cons (ps_set (i := 4) sc_law.nd rfl (Or.inl rfl) (pe_call (ok__law_term T 8) (hr.mono (by decide)) (by rfl) T.d__law_term.g T.d__law_term.F.kp T.d__law_term.b .nil pass0 (pa_cons (pv 3) (pa_cons pe_non pa_nil))))
      (pss_one (ps_if (PW.pt (pw_or (pt_cmpR op_ne (pe_callB (call_repr gd hu) (by rfl) T.n_repr (by decide +kernel) (pa_cons (pe_call (ok_forest_term T tb) (hr.mono (by decide)) (by rfl) T.d_forest_term.g T.d_forest_term.F.kp T.d_forest_term.b .nil pass0 (pa_cons (pv 3) pa_nil)) pa_nil)) (pe_callB (call_repr gd hu) (by rfl) T.n_repr (by decide +kernel) (pa_cons (pv 4) pa_nil)) (nomark _)) (pw_or1 (pt_cmpR op_ne (pe_callB (call_repr gd hu) (by rfl) T.n_repr (by decide +kernel) (pa_cons (pe_call (ok_forest_term T tb) (hr.mono (by decide)) (by rfl) T.d_forest_term.g T.d_forest_term.F.kp T.d_forest_term.b .nil pass0 (pa_cons (pv 3) pa_nil)) pa_nil)) (pe_callB (call_repr gd hu) (by rfl) T.n_repr (by decide +kernel) (pa_cons (pv 4) pa_nil)) (nomark _))))) (pss_one (ps_ret pe_bl)) pss_nil))))))
      (pss_one (ps_ret pe_bl)))), ?_⟩
    refine n_seq ?_
    refine ⟨.ref a, rfl, a, ns, rfl, hS, hl, fun p c H1 ex1 hp nf => ?_⟩
    dsimp only
    refine n_seq ?_
    refine ⟨6, rfl, by decide, by decide, ?_⟩
    refine for_range (lo := 0) (n := 6) (fun i σ H' => (∃ y2 y3 y4 y5 y6, σ = [some (.ref a), some (.ref p), y2, y3, y4, y5, y6]) ∧ Pen H' p c (40 * i) ∧ GxR.TabG H' T.P_is_forest) ⟨⟨none, none, none, none, none, rfl⟩, hp, tab_ex ht ex1⟩ ?_ ?_
    · rintro i σ H' hi ⟨⟨y2, y3, y4, y5, y6, rfl⟩, hp', ht'⟩
      refine n_name ?_
      dsimp only
      obtain ⟨x0, hx0⟩ := hp'.hasP
      refine n_seq ?_
      refine ⟨.ref p, rfl, p, c, _, rfl, hp', by omega, fun v fs H2 eb2 hp2 q2 ok2 => ?_⟩
      have ht2 := tab_exb ht' hx0 eb2
      dsimp only
      refine s_join (fun σ G => ∃ (v' : V) (fs' : List Tk) (w5 w6 : Option V), σ = [some (.ref a), some (.ref p), some (.int (0 + (i : Nat))), some v', y4, w5, w6] ∧ Ex H2 G ∧ Dq K p G v' (fsD fs') ∧ FsOk fs') (fun NX hNX => ?_) ?_
      · refine ⟨_, rfl, _, _, rfl, rfl, _, rfl, ite2 (fun _ => ?_) (fun _ => n_next (hNX _ _ ⟨v, fs, _, _, rfl, Ex.refl _, q2, ok2⟩))⟩
        obtain ⟨b, xs, rfl, hSx, hA⟩ := q2.seq
        have xl : xs.length = fs.length := by rw [hA.len, List.length_map]
        have l1 := ok2.one
        have l8 := ok2.most
        refine ⟨.ref b, rfl, b, xs, rfl, hSx, fun D nD => ?_⟩
        refine lc_it (walk_enumT (K := K) (a := b) (xs := xs)) (fun j G => Ex H2 G ∧ ∃ (zs : List V) (ts : List Tk), G D = some (.lst zs) ∧ DqAll K p G zs (ts.map tkD) ∧ ts.length = j ∧ (∀ n t, ts[n]? = some t → TkOk n t)) ⟨Ex.new nD, [], [], upd_same, .nil, rfl, fun n t z => by simp at z⟩ (fun i G _ h => ex_t h.1 hSx) ?_ ?_
        · rintro j x G G' hj ⟨ex, zs, ts, hD, qs, tl, oks⟩ ⟨T0, nx, y, rfl, hT0, rfl, h1, h2⟩
          cases h1
          obtain ⟨t, htj, qt⟩ := hA.map_get h2
          have ot := ok2.ok j t htj
          have x1 := ex.trans (Ex.new (o := .tup [.int (j : Nat), y]) hT0)
          have nT : D ≠ T0 := ne_of_none hD hT0
          obtain ⟨d, z0, z1, z2, rfl, hb, q0, q1, q2'⟩ := (Dq.ex x1 _ _ qt).tk
          have hD1 : (upd G T0 (.tup [.int (j : Nat), .ref d])) D = some (.lst zs) := by rw [upd_ne nT]; exact hD
          have qs1 := DqAll.ex (Ex.new (o := .tup [.int (j : Nat), .ref d]) hT0) _ _ qs
          have nlT : noLA (ts.map tkD) = true := noLA_of fun d hd => by
            obtain ⟨t, ht, rfl⟩ := List.mem_map.mp hd
            obtain ⟨n, hn, e⟩ := List.getElem_of_mem ht
            exact noL_tk (oks n t (by rw [List.getElem?_eq_getElem hn, e])) (by omega)
          refine ⟨T0, _, rfl, SqT.of upd_same, rfl, _, _, rfl, _, _, rfl, rfl, ?_⟩
          refine ⟨rfl, ?_⟩
          refine yes_of ?_
          rw [if_pos rfl]
          generalize upd G T0 (.tup [.int (j : Nat), .ref d]) = G1 at x1 hb q0 q1 q2' hD1 qs1
          refine (et_or (et_test (ev_op (ev_var rfl) ev_c (rv_eq rfl))) fun _ => et_test (ev_op (ev_var rfl) ev_c (rv_eq rfl))) G1 (Ex.refl _) _ fun G2 e2 => ?_
          have rest : ∀ o : Option Nat, (∀ q, o = some q → q < j) → tTup (tCons (tC (parV o)) tNil) [some (V.ref a), some (.ref p), some (.int (0 + (i : Nat))), some (.ref b), y4, some (.int (j : Nat)), some (.ref d)] G2 (fun x H1 => tSl (rSlA K) (tVar 6) (tPart (tC (.int 1))) tNoPart [some (V.ref a), some (.ref p), some (.int (0 + (i : Nat))), some (.ref b), y4, some (.int (j : Nat)), some (.ref d)] H1 fun y H2' => rCatT K x y H2' fun z H4 => ∃ acc, H4 D = some (.lst acc) ∧ acc.length < sizeLine ∧ Ex H2 (upd H4 D (.lst (acc ++ [z]))) ∧ ∃ (zs : List V) (ts : List Tk), (upd H4 D (.lst (acc ++ [z]))) D = some (.lst zs) ∧ DqAll K p (upd H4 D (.lst (acc ++ [z]))) zs (ts.map tkD) ∧ ts.length = j + 1 ∧ (∀ n t, ts[n]? = some t → TkOk n t)) := fun o ho => by
            refine ⟨by show 1 ≤ sizeLine; decide, fun t1 f1 => ?_⟩
            have x2 := Ex.new (o := .tup [parV o]) f1
            refine ⟨.ref d, rfl, 1, rfl, d, _, rfl, ex_t (e2.trans x2) hb, fun h => absurd (h.1.symm.trans (HT.sIx_nat 3 0 1)) (by decide), fun _ u hu => ?_⟩
            have cc : cutV [z0, z1, z2] (some 1) none = [z1, z2] := rfl
            rw [cc]
            have x3 := Ex.new (o := .tup [z1, z2]) hu
            refine ⟨t1, u, [parV o], [z1, z2], rfl, rfl, ex_t x3 (SqT.of upd_same), SqT.of upd_same, by simp, by show 3 ≤ sizeLine; decide, fun z => absurd z (by simp), fun _ t3 f3 => ?_⟩
            have x4 := Ex.new (o := .tup ([parV o] ++ [z1, z2])) f3
            have e4 := (e2.trans x2).trans (x3.trans x4)
            have hD4 := e4 _ _ hD1
            have tk : TkOk j ⟨o, t.pay, t.fac⟩ := ⟨ho, ot.pay, ot.fac, ot.nlp, ot.nlf⟩
            have qz : Dq K p (upd (upd (upd G2 t1 (.tup [parV o])) u (.tup [z1, z2])) t3 (.tup ([parV o] ++ [z1, z2]))) (.ref t3) (tkD ⟨o, t.pay, t.fac⟩) := .tup (SqT.of upd_same) (.cons (parV_dq o) (.cons (Dq.ex e4 _ _ q1) (.cons (Dq.ex e4 _ _ q2') .nil)))
            have qs4 := DqAll.ex e4 _ _ qs1
            have up := ExB.upd (o := .lst (zs ++ [.ref t3])) (ExB.refl D (upd (upd (upd G2 t1 (.tup [parV o])) u (.tup [z1, z2])) t3 (.tup ([parV o] ++ [z1, z2]))))
            have zl : zs.length = j := by rw [qs.len, List.length_map, tl]
            refine ⟨zs, hD4, small1000 (by omega), Ex.mut (x1.trans e4) nD, zs ++ [.ref t3], ts ++ [⟨o, t.pay, t.fac⟩], upd_same, ?_, by rw [List.length_append, tl]; rfl, fun n t' ht' => ?_⟩
            · rw [List.map_append]
              exact (DqAll.nl hD4 up _ _ nlT qs4).append (.cons (Dq.nl hD4 up _ _ (noL_tk tk (by omega)) qz) .nil)
            · by_cases c : n < j
              · rw [List.getElem?_append_left (by omega)] at ht'
                exact oks n t' ht'
              · rw [List.getElem?_append_right (by omega), tl] at ht'
                have hn : n = j := by
                  have := (List.getElem?_eq_some_iff.mp ht').1
                  simp at this
                  omega
                subst hn
                rw [Nat.sub_self] at ht'
                simp only [List.getElem?_cons_zero, Option.some.injEq] at ht'
                subst ht'
                exact tk
          by_cases c : (decide (V.int (0 + ((i : Nat) : Int)) = V.int 0) || decide (V.int (j : Nat) = V.int 0)) = true
          · rw [c]
            refine iteT ?_
            exact rest none fun q z => nomatch z
          · rw [Bool.not_eq_true] at c
            rw [c]
            refine iteF ?_
            refine rest (some 0) fun q z => ?_
            cases z
            rw [Bool.or_eq_false_iff] at c
            have := of_decide_eq_false c.2
            rw [V.int.injEq] at this
            omega
        · rintro G ⟨ex, zs, ts, hD, qs, tl, oks⟩
          refine ⟨D, zs, rfl, .inl ⟨SqL.of hD, fun t ft => ?_⟩⟩
          have x1 := Ex.new (o := .tup zs) ft
          exact hNX _ _ ⟨.ref t, ts, _, _, rfl, ex.trans x1, .tup (SqT.of upd_same) (DqAll.ex x1 _ _ qs), ⟨by omega, by omega, oks⟩⟩
      · rintro σ G ⟨v', fs', w5, w6, rfl, e3, q3, ok3⟩
        have hp3 := hp2.ex e3
        have ht3 := tab_ex ht2 e3
        obtain ⟨nlF, hn⟩ := fs_nc ok3
        have ln := hn.len (by decide)
        have big : 1000000 ≤ sizeLine := by decide
        refine n_seq ?_
        refine ⟨_, rfl, p, v', fs', none, rfl, q3, ok3, (by have := ok3.most; show fs'.length ≤ 0 + 8; omega), fun x G2 e4 qx => ?_⟩
        dsimp only
        have ht4 := tab_ex ht3 e4
        have hp4 := hp3.ex e4
        have q4 := Dq.ex e4 _ _ q3
        refine ⟨v', rfl, p, v', fs', rfl, q4, ok3, ht4, fun y G3 eb5 ht5 qy => ?_⟩
        have qx5 := Dq.tb ht4 eb5 _ _ qx
        have q5 := Dq.tb ht4 eb5 _ _ q4
        have hp5 := hp4.tb ht4 eb5
        refine ⟨y, _, p, rfl, .inl qy, hn.sh, hn.dp, by omega, x, rfl, x, _, p, rfl, .inl qx5, hn.sh, hn.dp, by omega, rfl, _, rfl, ifF (by rw [decide_eq_true rfl]; rfl) ?_⟩
        refine ⟨v', rfl, p, v', fs', rfl, q5, ok3, ht5, fun y' G4 eb6 ht6 qy' => ?_⟩
        have qx6 := Dq.tb ht5 eb6 _ _ qx5
        have hp6 := hp5.tb ht5 eb6
        refine ⟨y', _, p, rfl, .inl qy', hn.sh, hn.dp, by omega, x, rfl, x, _, p, rfl, .inl qx6, hn.sh, hn.dp, by omega, rfl, _, rfl, ifF (by rw [decide_eq_true rfl]; rfl) ?_⟩
        refine n_next ?_
        exact ⟨⟨_, _, _, _, _, rfl⟩, hp6.mono (by omega), ht6⟩
    · rintro σ G _
      exact k _
end
def CodeK (oc : Value) (vs : Array Value) (c P : Addr) : Prop := ∃ (file : Str) (tf : Tok) (flags : Int) (tg : Tok) (inF : Bool) (text : Int) (tt : Tok), oc = .type "code" ∧ vs.getD 11 .none = .ref P ∧ vs.getD 18 .none = .str file tf ∧
  vs.getD 7 .none = .int flags tg ∧ vs.getD 9 .none = .bool inF ∧ vs.getD 10 .none = .int text tt ∧ c ≠ P
theorem all_mk {l : PySem.W.OpenLaw} {w : World} {K : PySem.W.Frag} {h : Heap} {mg : Str → Option Value} {fa : Addr} (X : K.In h) (G : h.Ns mainGlobals mg) (hfa : mg "law" = some (.ref fa)) (hE : TabE K "is_forest" mg h)
    {od1 an1 : Option Addr} {sl1 : Array (Option Value)} {oc1 kV1 dc1 pm1 cd1 ct1 : Value} {f1 : Addr}
    {od2 an2 : Option Addr} {sl2 : Array (Option Value)} {oc2 kV2 dc2 pm2 cd2 ct2 : Value} {f2 : Addr}
    {od3 an3 : Option Addr} {sl3 : Array (Option Value)} {oc3 kV3 dc3 pm3 cd3 ct3 : Value} {f3 : Addr}
    {od4 an4 : Option Addr} {sl4 : Array (Option Value)} {oc4 kV4 dc4 pm4 cd4 ct4 : Value} {f4 : Addr}
    {od5 an5 : Option Addr} {sl5 : Array (Option Value)} {oc5 kV5 dc5 pm5 cd5 ct5 : Value} {f5 : Addr}
    {od6 an6 : Option Addr} {sl6 : Array (Option Value)} {oc6 kV6 dc6 pm6 cd6 ct6 : Value} {f6 : Addr}
    {od7 an7 : Option Addr} {sl7 : Array (Option Value)} {oc7 kV7 dc7 pm7 cd7 ct7 : Value} {f7 : Addr}
    {od8 an8 : Option Addr} {sl8 : Array (Option Value)} {oc8 kV8 dc8 pm8 cd8 ct8 : Value} {f8 : Addr}
    {od9 an9 : Option Addr} {sl9 : Array (Option Value)} {oc9 kV9 dc9 pm9 cd9 ct9 : Value} {f9 : Addr}
    {od10 an10 : Option Addr} {sl10 : Array (Option Value)} {oc10 kV10 dc10 pm10 cd10 ct10 : Value} {f10 : Addr}
    {od11 an11 : Option Addr} {sl11 : Array (Option Value)} {oc11 kV11 dc11 pm11 cd11 ct11 : Value} {f11 : Addr}
    {od12 an12 : Option Addr} {sl12 : Array (Option Value)} {oc12 kV12 dc12 pm12 cd12 ct12 : Value} {f12 : Addr}
    {od13 an13 : Option Addr} {sl13 : Array (Option Value)} {oc13 kV13 dc13 pm13 cd13 ct13 : Value} {f13 : Addr}
    {od14 an14 : Option Addr} {sl14 : Array (Option Value)} {oc14 kV14 dc14 pm14 cd14 ct14 : Value} {f14 : Addr}
    {od15 an15 : Option Addr} {sl15 : Array (Option Value)} {oc15 kV15 dc15 pm15 cd15 ct15 : Value} {f15 : Addr}
    {od16 an16 : Option Addr} {sl16 : Array (Option Value)} {oc16 kV16 dc16 pm16 cd16 ct16 : Value} {f16 : Addr}
    {od17 an17 : Option Addr} {sl17 : Array (Option Value)} {oc17 kV17 dc17 pm17 cd17 ct17 : Value} {f17 : Addr}
    {od18 an18 : Option Addr} {sl18 : Array (Option Value)} {oc18 kV18 dc18 pm18 cd18 ct18 : Value} {f18 : Addr}
    {od19 an19 : Option Addr} {sl19 : Array (Option Value)} {oc19 kV19 dc19 pm19 cd19 ct19 : Value} {f19 : Addr}
    {od20 an20 : Option Addr} {sl20 : Array (Option Value)} {oc20 kV20 dc20 pm20 cd20 ct20 : Value} {f20 : Addr}
    {od21 an21 : Option Addr} {sl21 : Array (Option Value)} {oc21 kV21 dc21 pm21 cd21 ct21 : Value} {f21 : Addr}
    {od22 an22 : Option Addr} {sl22 : Array (Option Value)} {oc22 kV22 dc22 pm22 cd22 ct22 : Value} {f22 : Addr}
    {aN : Addr} {ddN : Option Addr} {tN : Tok} {nN : Nat} {slN : Array (Option Value)}
    {aZ : Addr} {ddZ : Option Addr} {tZ uZ : Tok} {nZ : Nat} {slZ : Array (Option Value)}
    {tMOST_TASKS : Tok}
    {cA PA : Addr} {ocA : Value} {ddA : Option Addr} {vsA : Array Value} {slA : Array (Option Value)}
    (a1 : PySem.W.nsIn K mainGlobals "is_whole" = some (some (.ref f1))) (l1 : K.lookup f1 = some ⟨oc1, od1, .func (PySem.W.fnOf "is_whole" "is_whole" (defArgs s_is_whole) (defBody s_is_whole) (defScope s_is_whole) .none kV1 dc1 pm1 an1 cd1 ct1), sl1⟩) (c1 : PySem.W.codeIn K cd1 "is_whole" = true) (k1 : PySem.W.keepIn K (.ref f1) = true)
    (a2 : PySem.W.nsIn K mainGlobals "is_number_below" = some (some (.ref f2))) (l2 : K.lookup f2 = some ⟨oc2, od2, .func (PySem.W.fnOf "is_number_below" "is_number_below" (defArgs s_is_number_below) (defBody s_is_number_below) (defScope s_is_number_below) .none kV2 dc2 pm2 an2 cd2 ct2), sl2⟩) (c2 : PySem.W.codeIn K cd2 "is_number_below" = true) (k2 : PySem.W.keepIn K (.ref f2) = true)
    (a3 : PySem.W.nsIn K mainGlobals "is_fraction" = some (some (.ref f3))) (l3 : K.lookup f3 = some ⟨oc3, od3, .func (PySem.W.fnOf "is_fraction" "is_fraction" (defArgs s_is_fraction) (defBody s_is_fraction) (defScope s_is_fraction) .none kV3 dc3 pm3 an3 cd3 ct3), sl3⟩) (c3 : PySem.W.codeIn K cd3 "is_fraction" = true) (k3 : PySem.W.keepIn K (.ref f3) = true)
    (a4 : PySem.W.nsIn K mainGlobals "is_from_zero" = some (some (.ref f4))) (l4 : K.lookup f4 = some ⟨oc4, od4, .func (PySem.W.fnOf "is_from_zero" "is_from_zero" (defArgs s_is_from_zero) (defBody s_is_from_zero) (defScope s_is_from_zero) .none kV4 dc4 pm4 an4 cd4 ct4), sl4⟩) (c4 : PySem.W.codeIn K cd4 "is_from_zero" = true) (k4 : PySem.W.keepIn K (.ref f4) = true)
    (a5 : PySem.W.nsIn K mainGlobals "is_task" = some (some (.ref f5))) (l5 : K.lookup f5 = some ⟨oc5, od5, .func (PySem.W.fnOf "is_task" "is_task" (defArgs s_is_task) (defBody s_is_task) (defScope s_is_task) .none kV5 dc5 pm5 an5 cd5 ct5), sl5⟩) (c5 : PySem.W.codeIn K cd5 "is_task" = true) (k5 : PySem.W.keepIn K (.ref f5) = true)
    (a6 : PySem.W.nsIn K mainGlobals "is_forest" = some (some (.ref f6))) (l6 : K.lookup f6 = some ⟨oc6, od6, .func (PySem.W.fnOf "is_forest" "is_forest" (defArgs s_is_forest) (defBody s_is_forest) (defScope s_is_forest) .none kV6 dc6 pm6 an6 cd6 ct6), sl6⟩) (c6 : PySem.W.codeIn K cd6 "is_forest" = true) (k6 : PySem.W.keepIn K (.ref f6) = true)
    (a7 : PySem.W.nsIn K mainGlobals "require_forest" = some (some (.ref f7))) (l7 : K.lookup f7 = some ⟨oc7, od7, .func (PySem.W.fnOf "require_forest" "require_forest" (defArgs s_require_forest) (defBody s_require_forest) (defScope s_require_forest) .none kV7 dc7 pm7 an7 cd7 ct7), sl7⟩) (c7 : PySem.W.codeIn K cd7 "require_forest" = true) (k7 : PySem.W.keepIn K (.ref f7) = true)
    (a8 : PySem.W.nsIn K mainGlobals "children_of" = some (some (.ref f8))) (l8 : K.lookup f8 = some ⟨oc8, od8, .func (PySem.W.fnOf "children_of" "children_of" (defArgs s_children_of) (defBody s_children_of) (defScope s_children_of) .none kV8 dc8 pm8 an8 cd8 ct8), sl8⟩) (c8 : PySem.W.codeIn K cd8 "children_of" = true) (k8 : PySem.W.keepIn K (.ref f8) = true)
    (a9 : PySem.W.nsIn K mainGlobals "put_into_one" = some (some (.ref f9))) (l9 : K.lookup f9 = some ⟨oc9, od9, .func (PySem.W.fnOf "put_into_one" "put_into_one" (defArgs s_put_into_one) (defBody s_put_into_one) (defScope s_put_into_one) .none kV9 dc9 pm9 an9 cd9 ct9), sl9⟩) (c9 : PySem.W.codeIn K cd9 "put_into_one" = true) (k9 : PySem.W.keepIn K (.ref f9) = true)
    (a10 : PySem.W.nsIn K mainGlobals "term_of_tasks" = some (some (.ref f10))) (l10 : K.lookup f10 = some ⟨oc10, od10, .func (PySem.W.fnOf "term_of_tasks" "term_of_tasks" (defArgs s_term_of_tasks) (defBody s_term_of_tasks) (defScope s_term_of_tasks) .none kV10 dc10 pm10 an10 cd10 ct10), sl10⟩) (c10 : PySem.W.codeIn K cd10 "term_of_tasks" = true) (k10 : PySem.W.keepIn K (.ref f10) = true)
    (a11 : PySem.W.nsIn K mainGlobals "term_of_task" = some (some (.ref f11))) (l11 : K.lookup f11 = some ⟨oc11, od11, .func (PySem.W.fnOf "term_of_task" "term_of_task" (defArgs s_term_of_task) (defBody s_term_of_task) (defScope s_term_of_task) .none kV11 dc11 pm11 an11 cd11 ct11), sl11⟩) (c11 : PySem.W.codeIn K cd11 "term_of_task" = true) (k11 : PySem.W.keepIn K (.ref f11) = true)
    (a12 : PySem.W.nsIn K mainGlobals "term_of_forest" = some (some (.ref f12))) (l12 : K.lookup f12 = some ⟨oc12, od12, .func (PySem.W.fnOf "term_of_forest" "term_of_forest" (defArgs s_term_of_forest) (defBody s_term_of_forest) (defScope s_term_of_forest) .none kV12 dc12 pm12 an12 cd12 ct12), sl12⟩) (c12 : PySem.W.codeIn K cd12 "term_of_forest" = true) (k12 : PySem.W.keepIn K (.ref f12) = true)
    (a13 : PySem.W.nsIn K mainGlobals "forest_term" = some (some (.ref f13))) (l13 : K.lookup f13 = some ⟨oc13, od13, .func (PySem.W.fnOf "forest_term" "forest_term" (defArgs s_forest_term) (defBody s_forest_term) (defScope s_forest_term) .none kV13 dc13 pm13 an13 cd13 ct13), sl13⟩) (c13 : PySem.W.codeIn K cd13 "forest_term" = true) (k13 : PySem.W.keepIn K (.ref f13) = true)
    (a14 : PySem.W.nsIn K mainGlobals "_law_pen" = some (some (.ref f14))) (l14 : K.lookup f14 = some ⟨oc14, od14, .func (PySem.W.fnOf "_law_pen" "_law_pen" (defArgs s__law_pen) (defBody s__law_pen) (defScope s__law_pen) .none kV14 dc14 pm14 an14 cd14 ct14), sl14⟩) (c14 : PySem.W.codeIn K cd14 "_law_pen" = true) (k14 : PySem.W.keepIn K (.ref f14) = true)
    (a15 : PySem.W.nsIn K mainGlobals "_law_next" = some (some (.ref f15))) (l15 : K.lookup f15 = some ⟨oc15, od15, .func (PySem.W.fnOf "_law_next" "_law_next" (defArgs s__law_next) (defBody s__law_next) (defScope s__law_next) .none kV15 dc15 pm15 an15 cd15 ct15), sl15⟩) (c15 : PySem.W.codeIn K cd15 "_law_next" = true) (k15 : PySem.W.keepIn K (.ref f15) = true)
    (a16 : PySem.W.nsIn K mainGlobals "_law_draw" = some (some (.ref f16))) (l16 : K.lookup f16 = some ⟨oc16, od16, .func (PySem.W.fnOf "_law_draw" "_law_draw" (defArgs s__law_draw) (defBody s__law_draw) (defScope s__law_draw) .none kV16 dc16 pm16 an16 cd16 ct16), sl16⟩) (c16 : PySem.W.codeIn K cd16 "_law_draw" = true) (k16 : PySem.W.keepIn K (.ref f16) = true)
    (a17 : PySem.W.nsIn K mainGlobals "_law_pay" = some (some (.ref f17))) (l17 : K.lookup f17 = some ⟨oc17, od17, .func (PySem.W.fnOf "_law_pay" "_law_pay" (defArgs s__law_pay) (defBody s__law_pay) (defScope s__law_pay) .none kV17 dc17 pm17 an17 cd17 ct17), sl17⟩) (c17 : PySem.W.codeIn K cd17 "_law_pay" = true) (k17 : PySem.W.keepIn K (.ref f17) = true)
    (a18 : PySem.W.nsIn K mainGlobals "_law_factor" = some (some (.ref f18))) (l18 : K.lookup f18 = some ⟨oc18, od18, .func (PySem.W.fnOf "_law_factor" "_law_factor" (defArgs s__law_factor) (defBody s__law_factor) (defScope s__law_factor) .none kV18 dc18 pm18 an18 cd18 ct18), sl18⟩) (c18 : PySem.W.codeIn K cd18 "_law_factor" = true) (k18 : PySem.W.keepIn K (.ref f18) = true)
    (a19 : PySem.W.nsIn K mainGlobals "_law_forest" = some (some (.ref f19))) (l19 : K.lookup f19 = some ⟨oc19, od19, .func (PySem.W.fnOf "_law_forest" "_law_forest" (defArgs s__law_forest) (defBody s__law_forest) (defScope s__law_forest) .none kV19 dc19 pm19 an19 cd19 ct19), sl19⟩) (c19 : PySem.W.codeIn K cd19 "_law_forest" = true) (k19 : PySem.W.keepIn K (.ref f19) = true)
    (a20 : PySem.W.nsIn K mainGlobals "_law_together" = some (some (.ref f20))) (l20 : K.lookup f20 = some ⟨oc20, od20, .func (PySem.W.fnOf "_law_together" "_law_together" (defArgs s__law_together) (defBody s__law_together) (defScope s__law_together) .none kV20 dc20 pm20 an20 cd20 ct20), sl20⟩) (c20 : PySem.W.codeIn K cd20 "_law_together" = true) (k20 : PySem.W.keepIn K (.ref f20) = true)
    (a21 : PySem.W.nsIn K mainGlobals "_law_term" = some (some (.ref f21))) (l21 : K.lookup f21 = some ⟨oc21, od21, .func (PySem.W.fnOf "_law_term" "_law_term" (defArgs s__law_term) (defBody s__law_term) (defScope s__law_term) .none kV21 dc21 pm21 an21 cd21 ct21), sl21⟩) (c21 : PySem.W.codeIn K cd21 "_law_term" = true) (k21 : PySem.W.keepIn K (.ref f21) = true)
    (a22 : PySem.W.nsIn K mainGlobals "law" = some (some (.ref f22))) (l22 : K.lookup f22 = some ⟨oc22, od22, .func (PySem.W.fnOf "law" "law" (defArgs s_law) (defBody s_law) (defScope s_law) .none kV22 dc22 pm22 an22 cd22 ct22), sl22⟩) (c22 : PySem.W.codeIn K cd22 "law" = true) (k22 : PySem.W.keepIn K (.ref f22) = true)
    (z_all : PySem.W.nsIn K mainGlobals "all" = some none)
    (z_bool : PySem.W.nsIn K mainGlobals "bool" = some none)
    (z_enumerate : PySem.W.nsIn K mainGlobals "enumerate" = some none)
    (z_int : PySem.W.nsIn K mainGlobals "int" = some none)
    (z_isinstance : PySem.W.nsIn K mainGlobals "isinstance" = some none)
    (z_len : PySem.W.nsIn K mainGlobals "len" = some none)
    (z_list : PySem.W.nsIn K mainGlobals "list" = some none)
    (z_range : PySem.W.nsIn K mainGlobals "range" = some none)
    (z_repr : PySem.W.nsIn K mainGlobals "repr" = some none)
    (z_tuple : PySem.W.nsIn K mainGlobals "tuple" = some none)
    (z_gcd : PySem.W.nsIn K mainGlobals "gcd" = some (some (.builtin "math.gcd")))
    (zN : PySem.W.nsIn K mainGlobals "END" = some (some (.ref aN))) (lN : K.lookup aN = some ⟨.type "tuple", ddN, .seq #[.str "end" tN] nN, slN⟩)
    (zZ : PySem.W.nsIn K mainGlobals "ZERO" = some (some (.ref aZ))) (lZ : K.lookup aZ = some ⟨.type "tuple", ddZ, .seq #[.int 0 tZ, .int 1 uZ] nZ, slZ⟩)
    (zMOST_TASKS : PySem.W.nsIn K mainGlobals "MOST_TASKS" = some (some (.int 8 tMOST_TASKS)))
    (tA : cd6 = .ref cA) (uA : K.lookup cA = some ⟨ocA, ddA, .fields vsA, slA⟩) (vA : vsA[11]? = some (.ref PA)) (nA : K.lookup PA = none) (hA : CodeK ocA vsA cA PA) :
    ∃ (fd : FuncData) (cs : List (Addr × Addr)), (∀ p ∈ cs, h.get? p.2 = some { cls := .none, data := .fields #[] }) ∧ (∀ p ∈ cs, K.lookup p.2 = none) ∧ (∀ p ∈ cs, PySem.W.CodeHd h p.1 p.2) ∧ (∀ (s : Shared) (u : Value), BindsTo s fd ⟨[u], []⟩ [("_law_script", u)]) ∧
      (∀ (H : Hp) (a : Addr) (ns : List Int), ns.length ≤ 63 → (∀ p ∈ cs, H p.2 = some (.tbl #[])) → SqL K H a (ns.map V.int) → spLaw K PA [.ref a] H (fun v _ => v = .bl true) E0) ∧
      ∀ base : Heap, K.In base → base.Ns mainGlobals mg → (∀ p ∈ cs, GxR.TabB base mg p.1 p.2) → FnG l.prog w K mg base 27 fa fd ["_law_script"] (spLaw K PA) := by
  have e := hfa.symm.trans (PySem.W.mg_of X G a22)
  cases e
  let T : Txt K mg := {
    d_is_whole := ⟨f1, _, fun_mk (st := s_is_whole) l1 c1 k1, (fun_mk (st := s_is_whole) l1 c1 k1).binds (ps := ["value"]) (fun _ _ _ _ _ _ us hl => match us, hl with | [_], _ => rfl), PySem.W.mg_of X G a1⟩,
    d_is_number_below := ⟨f2, _, fun_mk (st := s_is_number_below) l2 c2 k2, (fun_mk (st := s_is_number_below) l2 c2 k2).binds (ps := ["value", "count"]) (fun _ _ _ _ _ _ us hl => match us, hl with | [_, _], _ => rfl), PySem.W.mg_of X G a2⟩,
    d_is_fraction := ⟨f3, _, fun_mk (st := s_is_fraction) l3 c3 k3, (fun_mk (st := s_is_fraction) l3 c3 k3).binds (ps := ["value"]) (fun _ _ _ _ _ _ us hl => match us, hl with | [_], _ => rfl), PySem.W.mg_of X G a3⟩,
    d_is_from_zero := ⟨f4, _, fun_mk (st := s_is_from_zero) l4 c4 k4, (fun_mk (st := s_is_from_zero) l4 c4 k4).binds (ps := ["value"]) (fun _ _ _ _ _ _ us hl => match us, hl with | [_], _ => rfl), PySem.W.mg_of X G a4⟩,
    d_is_task := ⟨f5, _, fun_mk (st := s_is_task) l5 c5 k5, (fun_mk (st := s_is_task) l5 c5 k5).binds (ps := ["value", "number"]) (fun _ _ _ _ _ _ us hl => match us, hl with | [_, _], _ => rfl), PySem.W.mg_of X G a5⟩,
    d_is_forest := ⟨f6, _, fun_mk (st := s_is_forest) l6 c6 k6, (fun_mk (st := s_is_forest) l6 c6 k6).binds (ps := ["value"]) (fun _ _ _ _ _ _ us hl => match us, hl with | [_], _ => rfl), PySem.W.mg_of X G a6⟩,
    d_require_forest := ⟨f7, _, fun_mk (st := s_require_forest) l7 c7 k7, (fun_mk (st := s_require_forest) l7 c7 k7).binds (ps := ["value"]) (fun _ _ _ _ _ _ us hl => match us, hl with | [_], _ => rfl), PySem.W.mg_of X G a7⟩,
    d_children_of := ⟨f8, _, fun_mk (st := s_children_of) l8 c8 k8, (fun_mk (st := s_children_of) l8 c8 k8).binds (ps := ["forest", "parent"]) (fun _ _ _ _ _ _ us hl => match us, hl with | [_, _], _ => rfl), PySem.W.mg_of X G a8⟩,
    d_put_into_one := ⟨f9, _, fun_mk (st := s_put_into_one) l9 c9 k9, (fun_mk (st := s_put_into_one) l9 c9 k9).binds (ps := ["terms"]) (fun _ _ _ _ _ _ us hl => match us, hl with | [_], _ => rfl), PySem.W.mg_of X G a9⟩,
    d_term_of_tasks := ⟨f10, _, fun_mk (st := s_term_of_tasks) l10 c10 k10, (fun_mk (st := s_term_of_tasks) l10 c10 k10).binds (ps := ["forest", "tasks"]) (fun _ _ _ _ _ _ us hl => match us, hl with | [_, _], _ => rfl), PySem.W.mg_of X G a10⟩,
    d_term_of_task := ⟨f11, _, fun_mk (st := s_term_of_task) l11 c11 k11, (fun_mk (st := s_term_of_task) l11 c11 k11).binds (ps := ["forest", "number"]) (fun _ _ _ _ _ _ us hl => match us, hl with | [_, _], _ => rfl), PySem.W.mg_of X G a11⟩,
    d_term_of_forest := ⟨f12, _, fun_mk (st := s_term_of_forest) l12 c12 k12, (fun_mk (st := s_term_of_forest) l12 c12 k12).binds (ps := ["forest"]) (fun _ _ _ _ _ _ us hl => match us, hl with | [_], _ => rfl), PySem.W.mg_of X G a12⟩,
    d_forest_term := ⟨f13, _, fun_mk (st := s_forest_term) l13 c13 k13, (fun_mk (st := s_forest_term) l13 c13 k13).binds (ps := ["forest"]) (fun _ _ _ _ _ _ us hl => match us, hl with | [_], _ => rfl), PySem.W.mg_of X G a13⟩,
    d__law_pen := ⟨f14, _, fun_mk (st := s__law_pen) l14 c14 k14, (fun_mk (st := s__law_pen) l14 c14 k14).binds (ps := ["_law_script"]) (fun _ _ _ _ _ _ us hl => match us, hl with | [_], _ => rfl), PySem.W.mg_of X G a14⟩,
    d__law_next := ⟨f15, _, fun_mk (st := s__law_next) l15 c15 k15, (fun_mk (st := s__law_next) l15 c15 k15).binds (ps := ["_law_pen_here"]) (fun _ _ _ _ _ _ us hl => match us, hl with | [_], _ => rfl), PySem.W.mg_of X G a15⟩,
    d__law_draw := ⟨f16, _, fun_mk (st := s__law_draw) l16 c16 k16, (fun_mk (st := s__law_draw) l16 c16 k16).binds (ps := ["_law_pen_here", "_law_under"]) (fun _ _ _ _ _ _ us hl => match us, hl with | [_, _], _ => rfl), PySem.W.mg_of X G a16⟩,
    d__law_pay := ⟨f17, _, fun_mk (st := s__law_pay) l17 c17 k17, (fun_mk (st := s__law_pay) l17 c17 k17).binds (ps := ["_law_pen_here"]) (fun _ _ _ _ _ _ us hl => match us, hl with | [_], _ => rfl), PySem.W.mg_of X G a17⟩,
    d__law_factor := ⟨f18, _, fun_mk (st := s__law_factor) l18 c18 k18, (fun_mk (st := s__law_factor) l18 c18 k18).binds (ps := ["_law_pen_here"]) (fun _ _ _ _ _ _ us hl => match us, hl with | [_], _ => rfl), PySem.W.mg_of X G a18⟩,
    d__law_forest := ⟨f19, _, fun_mk (st := s__law_forest) l19 c19 k19, (fun_mk (st := s__law_forest) l19 c19 k19).binds (ps := ["_law_pen_here", "_law_most"]) (fun _ _ _ _ _ _ us hl => match us, hl with | [_, _], _ => rfl), PySem.W.mg_of X G a19⟩,
    d__law_together := ⟨f20, _, fun_mk (st := s__law_together) l20 c20 k20, (fun_mk (st := s__law_together) l20 c20 k20).binds (ps := ["_law_terms"]) (fun _ _ _ _ _ _ us hl => match us, hl with | [_], _ => rfl), PySem.W.mg_of X G a20⟩,
    d__law_term := ⟨f21, _, fun_mk (st := s__law_term) l21 c21 k21, (fun_mk (st := s__law_term) l21 c21 k21).binds (ps := ["_law_forest_here", "_law_parent"]) (fun _ _ _ _ _ _ us hl => match us, hl with | [_, _], _ => rfl), PySem.W.mg_of X G a21⟩,
    d_law := ⟨fa, _, fun_mk (st := s_law) l22 c22 k22, (fun_mk (st := s_law) l22 c22 k22).binds (ps := ["_law_script"]) (fun _ _ _ _ _ _ us hl => match us, hl with | [_], _ => rfl), PySem.W.mg_of X G a22⟩,
    n_all := PySem.W.mg_none_of X G z_all,
    n_bool := PySem.W.mg_none_of X G z_bool,
    n_enumerate := PySem.W.mg_none_of X G z_enumerate,
    n_int := PySem.W.mg_none_of X G z_int,
    n_isinstance := PySem.W.mg_none_of X G z_isinstance,
    n_len := PySem.W.mg_none_of X G z_len,
    n_list := PySem.W.mg_none_of X G z_list,
    n_range := PySem.W.mg_none_of X G z_range,
    n_repr := PySem.W.mg_none_of X G z_repr,
    n_tuple := PySem.W.mg_none_of X G z_tuple,
    n_gcd := PySem.W.mg_of X G z_gcd,
    a_END := aN, c_END := PySem.W.mg_of X G zN, k_END := ⟨_, _, _, lN, rfl, rfl, (by show 1 ≤ sizeLine; decide), .cons ⟨_, rfl⟩ .nil⟩,
    a_ZERO := aZ, c_ZERO := PySem.W.mg_of X G zZ, k_ZERO := ⟨_, _, _, lZ, rfl, rfl, (by show 2 ≤ sizeLine; decide), .cons ⟨_, rfl⟩ (.cons ⟨_, rfl⟩ .nil)⟩,
    t_MOST_TASKS := tMOST_TASKS, c_MOST_TASKS := PySem.W.mg_of X G zMOST_TASKS,
    c_is_forest := cA, P_is_forest := PA, h_is_forest := tA }
  refine ⟨PySem.W.fnOf "law" "law" (defArgs s_law) (defBody s_law) (defScope s_law) .none kV22 dc22 pm22 an22 cd22 ct22, [(cA, PA)], ?_, ?_, ?_, fun s v => .of_eq rfl, ?_, fun base _ _ hb => ok_law T (hb (cA, PA) (by simp))⟩
  · intro p hp
    rw [List.mem_singleton] at hp
    subst hp
    exact hE f6 cA PA _ _ _ _ _ _ (PySem.W.mg_of X G a6) l6 rfl tA uA vA
  · intro p hp
    rw [List.mem_singleton] at hp
    subst hp
    exact nA
  · intro p hp
    rw [List.mem_singleton] at hp
    subst hp
    obtain ⟨file, tf, flags, tg, inF, text, tt, h1, h2, h3, h4, h5, h6, h7⟩ := hA
    exact ⟨_, vsA, file, tf, flags, tg, inF, text, tt, X _ _ uA, h1, rfl, vA, h2, h3, h4, h5, h6, h7⟩
  · intro H a ns hl hT hS
    exact ⟨a, ns, rfl, hS, hl, ⟨#[], hT (cA, PA) (by simp), trivial⟩, fun _ => rfl⟩
end Jf
open PySem PySem.W PyProof.Rows
set_option maxRecDepth 100000 in
set_option maxHeartbeats 0 in
theorem PySem.Challenge.cw_onenumber_k55_terms_of_forests_holds : PySem.Challenge.rw_onenumber_k55_terms_of_forests.Holds := by
  w_on; o_law; k_head; (case hw => w_witness2)
  k_fill
  refine' Jf.walk_ofGK (l := PySem.Challenge.rw_onenumber_k55_terms_of_forests) (n := 63) (k := 27) (x := "_law_script") (y := "is_forest") (sp := Jf.spLaw) rfl (by decide) rfl ⟨rfl, by decide, by decide⟩ (by decide) (fun w h Y => PySem.W.kIn_of Y) ?F
  case F =>
    intro w mg fa h KX G hmg hE
    refine' Jf.all_mk KX G hmg hE ?a1 ?l1 ?c1 ?k1 ?a2 ?l2 ?c2 ?k2 ?a3 ?l3 ?c3 ?k3 ?a4 ?l4 ?c4 ?k4 ?a5 ?l5 ?c5 ?k5 ?a6 ?l6 ?c6 ?k6 ?a7 ?l7 ?c7 ?k7 ?a8 ?l8 ?c8 ?k8 ?a9 ?l9 ?c9 ?k9 ?a10 ?l10 ?c10 ?k10 ?a11 ?l11 ?c11 ?k11 ?a12 ?l12 ?c12 ?k12 ?a13 ?l13 ?c13 ?k13 ?a14 ?l14 ?c14 ?k14 ?a15 ?l15 ?c15 ?k15 ?a16 ?l16 ?c16 ?k16 ?a17 ?l17 ?c17 ?k17 ?a18 ?l18 ?c18 ?k18 ?a19 ?l19 ?c19 ?k19 ?a20 ?l20 ?c20 ?k20 ?a21 ?l21 ?c21 ?k21 ?a22 ?l22 ?c22 ?k22 ?z_all ?z_bool ?z_enumerate ?z_int ?z_isinstance ?z_len ?z_list ?z_range ?z_repr ?z_tuple ?z_gcd ?zN ?lN ?zZ ?lZ ?zMOST_TASKS ?tA ?uA ?vA ?nA ?hA
    (case a1 => k_is)
    (case l1 => k_is)
    (case c1 => k_is)
    (case k1 => k_is)
    (case a2 => k_is)
    (case l2 => k_is)
    (case c2 => k_is)
    (case k2 => k_is)
    (case a3 => k_is)
    (case l3 => k_is)
    (case c3 => k_is)
    (case k3 => k_is)
    (case a4 => k_is)
    (case l4 => k_is)
    (case c4 => k_is)
    (case k4 => k_is)
    (case a5 => k_is)
    (case l5 => k_is)
    (case c5 => k_is)
    (case k5 => k_is)
    (case a6 => k_is)
    (case l6 => k_is)
    (case c6 => k_is)
    (case k6 => k_is)
    (case a7 => k_is)
    (case l7 => k_is)
    (case c7 => k_is)
    (case k7 => k_is)
    (case a8 => k_is)
    (case l8 => k_is)
    (case c8 => k_is)
    (case k8 => k_is)
    (case a9 => k_is)
    (case l9 => k_is)
    (case c9 => k_is)
    (case k9 => k_is)
    (case a10 => k_is)
    (case l10 => k_is)
    (case c10 => k_is)
    (case k10 => k_is)
    (case a11 => k_is)
    (case l11 => k_is)
    (case c11 => k_is)
    (case k11 => k_is)
    (case a12 => k_is)
    (case l12 => k_is)
    (case c12 => k_is)
    (case k12 => k_is)
    (case a13 => k_is)
    (case l13 => k_is)
    (case c13 => k_is)
    (case k13 => k_is)
    (case a14 => k_is)
    (case l14 => k_is)
    (case c14 => k_is)
    (case k14 => k_is)
    (case a15 => k_is)
    (case l15 => k_is)
    (case c15 => k_is)
    (case k15 => k_is)
    (case a16 => k_is)
    (case l16 => k_is)
    (case c16 => k_is)
    (case k16 => k_is)
    (case a17 => k_is)
    (case l17 => k_is)
    (case c17 => k_is)
    (case k17 => k_is)
    (case a18 => k_is)
    (case l18 => k_is)
    (case c18 => k_is)
    (case k18 => k_is)
    (case a19 => k_is)
    (case l19 => k_is)
    (case c19 => k_is)
    (case k19 => k_is)
    (case a20 => k_is)
    (case l20 => k_is)
    (case c20 => k_is)
    (case k20 => k_is)
    (case a21 => k_is)
    (case l21 => k_is)
    (case c21 => k_is)
    (case k21 => k_is)
    (case a22 => k_is)
    (case l22 => k_is)
    (case c22 => k_is)
    (case k22 => k_is)
    (case z_all => k_is)
    (case z_bool => k_is)
    (case z_enumerate => k_is)
    (case z_int => k_is)
    (case z_isinstance => k_is)
    (case z_len => k_is)
    (case z_list => k_is)
    (case z_range => k_is)
    (case z_repr => k_is)
    (case z_tuple => k_is)
    (case z_gcd => k_is)
    (case zN => k_is)
    (case lN => k_is)
    (case zZ => k_is)
    (case lZ => k_is)
    (case zMOST_TASKS => k_is)
    (case tA => rfl)
    (case uA => k_is)
    (case vA => rfl)
    (case nA => rfl)
    (case hA => exact ⟨_, _, _, _, _, _, _, rfl, rfl, rfl, rfl, rfl, rfl, by decide⟩)
