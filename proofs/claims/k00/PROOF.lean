import PyProof.Rows.All
import Wide.All
import OpenK.AllK
import Wide.FinOn
import HandS.ForMost
import HandS.Evl
import HandS.Gcd
import HandS.Wide
import HandS.NoneIn
import HandS.IsInst
import HandS.Exc
import HandS.TryOnly
import HandS.ExcOwn
import HandS.WordsExc
import HandS.ExcInit
import HandS.ExcField
import HandS.ExcIs
import HandS.SetFor
import HandS.TupLe
import KE.KExcIs
import PyProof.ReprRoads
import KE.KStateDown
import HandS.Defaults
import HandS.Head0
import HandS.Head1
import HandS.Head2
import HandS.HeadEnd
import HandS.HeadHook1
import HandS.HeadHook2
import HandS.HeadHook3
import HandS.HeadHook4
import KE.KTypeName
import PyProof.ListCopy
import PySem.Challenge.RW_onenumber_k00_errors_by_hand
set_option Elab.async false
set_option linter.all false
/-! fractions as core rationals -/
namespace Jf
theorem gcd_pos {n d : Int} (hd : d ≠ 0) : 0 < Nat.gcd n.natAbs d.natAbs := Nat.gcd_pos_of_pos_right _ (by omega)
theorem low_split (n d : Int) (hd : d ≠ 0) : ∃ (g : Nat) (k m : Int), g = Nat.gcd n.natAbs d.natAbs ∧ 0 < g ∧ n = (g : Int) * k ∧ d = (g : Int) * m ∧ (Rat.divInt n d).num = d.sign * k ∧ ((Rat.divInt n d).den : Int) = d.sign * m := by
  have h1 : ((Nat.gcd n.natAbs d.natAbs : Nat) : Int) ∣ n := Int.ofNat_dvd_left.mpr (Nat.gcd_dvd_left _ _)
  have h2 : ((Nat.gcd n.natAbs d.natAbs : Nat) : Int) ∣ d := Int.ofNat_dvd_left.mpr (Nat.gcd_dvd_right _ _)
  obtain ⟨k, hk⟩ := h1
  obtain ⟨m, hm⟩ := h2
  have hp := gcd_pos (n := n) hd
  refine ⟨_, k, m, rfl, hp, hk, hm, ?_, ?_⟩
  · have hg : (d.gcd n : Nat) = Nat.gcd n.natAbs d.natAbs := by rw [Int.gcd_comm]; rfl
    rw [Rat.num_divInt, hg]
    generalize hG : Nat.gcd n.natAbs d.natAbs = G at *
    have hG0 : (G : Int) ≠ 0 := by omega
    rw [hk, ← Int.mul_assoc, Int.mul_comm d.sign (G : Int), Int.mul_assoc, Int.mul_ediv_cancel_left _ hG0]
  · have hg : (d.gcd n : Nat) = Nat.gcd n.natAbs d.natAbs := by rw [Int.gcd_comm]; rfl
    rw [Rat.den_divInt, if_neg hd, hg]
    generalize hG : Nat.gcd n.natAbs d.natAbs = G at *
    have hG0 : (G : Int) ≠ 0 := by omega
    have e : d.natAbs = G * m.natAbs := by rw [hm, Int.natAbs_mul]; rfl
    rw [e, Nat.mul_div_cancel_left _ hp]
    have hs : d.sign = m.sign := by rw [hm, Int.sign_mul, Int.sign_natCast_of_ne_zero (by omega), Int.one_mul]
    rw [hs, Int.sign_mul_self]
/-- the program's lowest -/
theorem lowest_eq (n d : Int) (hd : d ≠ 0) :
    n.fdiv (if d < 0 then -((Nat.gcd n.natAbs d.natAbs : Nat) : Int) else ((Nat.gcd n.natAbs d.natAbs : Nat) : Int)) = (Rat.divInt n d).num ∧
    d.fdiv (if d < 0 then -((Nat.gcd n.natAbs d.natAbs : Nat) : Int) else ((Nat.gcd n.natAbs d.natAbs : Nat) : Int)) = ((Rat.divInt n d).den : Int) := by
  obtain ⟨g, k, m, hg, hp, hn, hm, e1, e2⟩ := low_split n d hd
  rw [← hg, e1, e2]
  have hg0 : (g : Int) ≠ 0 := by omega
  by_cases h : d < 0
  · rw [if_pos h, Int.sign_eq_neg_one_of_neg h]
    have hn' : n = (-(g : Int)) * (-k) := by rw [hn]; grind
    have hm' : d = (-(g : Int)) * (-m) := by rw [hm]; grind
    have hg1 : (-(g : Int)) ≠ 0 := by omega
    constructor
    · rw [hn', Int.mul_fdiv_cancel_left _ hg1]; omega
    · rw [hm', Int.mul_fdiv_cancel_left _ hg1]; omega
  · rw [if_neg h, Int.sign_eq_one_of_pos (by omega)]
    constructor
    · rw [hn, Int.mul_fdiv_cancel_left _ hg0]; omega
    · rw [hm, Int.mul_fdiv_cancel_left _ hg0]; omega
/-- the law's low -/
theorem low_eq (n d : Int) (hd : d ≠ 0) (s : Int) (hs : s = if d < 0 then -1 else 1) :
    (s * n) / ((Nat.gcd n.natAbs d.natAbs : Nat) : Int) = (Rat.divInt n d).num ∧ (s * d) / ((Nat.gcd n.natAbs d.natAbs : Nat) : Int) = ((Rat.divInt n d).den : Int) := by
  obtain ⟨g, k, m, hg, hp, hn, hm, e1, e2⟩ := low_split n d hd
  rw [← hg, e1, e2]
  have hg0 : (g : Int) ≠ 0 := by omega
  have hs' : s = d.sign := by
    by_cases h : d < 0
    · rw [hs, if_pos h, Int.sign_eq_neg_one_of_neg h]
    · rw [hs, if_neg h, Int.sign_eq_one_of_pos (by omega)]
  rw [hs']
  constructor
  · rw [show d.sign * n = (g : Int) * (d.sign * k) by rw [hn]; grind, Int.mul_ediv_cancel_left _ hg0]
  · rw [show d.sign * d = (g : Int) * (d.sign * m) by
      generalize d.sign = z
      rw [hm]; grind, Int.mul_ediv_cancel_left _ hg0]
theorem num_le (n d : Int) (hd : d ≠ 0) : (Rat.divInt n d).num.natAbs ≤ n.natAbs := by
  obtain ⟨g, k, m, hg, hp, hn, hm, e1, e2⟩ := low_split n d hd
  have hs : d.sign.natAbs = 1 := by rw [Int.natAbs_sign, if_neg hd]
  rw [e1, Int.natAbs_mul, hs, hn, Int.natAbs_mul, Nat.one_mul]
  exact Nat.le_mul_of_pos_left _ (by omega)
theorem den_le (n d : Int) (hd : d ≠ 0) : (Rat.divInt n d).den ≤ d.natAbs := by
  obtain ⟨g, k, m, hg, hp, hn, hm, e1, e2⟩ := low_split n d hd
  have hs : d.sign.natAbs = 1 := by rw [Int.natAbs_sign, if_neg hd]
  have e3 : (Rat.divInt n d).den = m.natAbs := by
    have := congrArg Int.natAbs e2
    rw [Int.natAbs_mul, hs, Nat.one_mul] at this
    simpa using this
  rw [e3]
  have : d.natAbs = g * m.natAbs := by rw [hm, Int.natAbs_mul]; rfl
  rw [this]
  exact Nat.le_mul_of_pos_left _ (by omega)
theorem den_pos (q : Rat) : (0 : Int) < (q.den : Int) := by have := q.den_pos; omega
theorem den_ne (q : Rat) : (q.den : Int) ≠ 0 := by have := q.den_pos; omega
theorem add_eq (q r : Rat) : Rat.divInt (q.num * r.den + r.num * q.den) (q.den * r.den) = q + r := by
  rw [← Rat.divInt_add_divInt _ _ (den_ne q) (den_ne r), Rat.num_divInt_den, Rat.num_divInt_den]
theorem sub_eq (q r : Rat) : Rat.divInt (q.num * r.den - r.num * q.den) (q.den * r.den) = q - r := by
  rw [← Rat.divInt_sub_divInt _ _ (den_ne q) (den_ne r), Rat.num_divInt_den, Rat.num_divInt_den]
theorem mul_eq (q r : Rat) : Rat.divInt (q.num * r.num) (q.den * r.den) = q * r := by
  rw [← Rat.divInt_mul_divInt, Rat.num_divInt_den, Rat.num_divInt_den]
theorem div_eq (q r : Rat) : Rat.divInt (q.num * r.den) (q.den * r.num) = q / r := by
  rw [Rat.div_def, Rat.inv_def, ← Rat.divInt_mul_divInt, Rat.num_divInt_den]
theorem num_ne {r : Rat} (h : r ≠ 0) : r.num ≠ 0 := fun e => h (Rat.num_eq_zero.mp e)
theorem red (q : Rat) : Nat.gcd q.num.natAbs (q.den : Int).natAbs = 1 := by
  have := q.reduced
  simpa [Nat.Coprime] using this
/-- compare -/
def cmp (q r : Rat) : Int := if q = r then 0 else if r < q then 1 else -1
theorem cmp_eq (q r : Rat) : (if (q - r).num = 0 then (0 : Int) else if 0 < (q - r).num then 1 else -1) = cmp q r := by
  unfold cmp
  have e : (q - r).num = 0 ↔ q = r := by
    rw [Rat.num_eq_zero]
    constructor <;> intro h <;> grind
  by_cases h : q = r
  · rw [if_pos (e.mpr h), if_pos h]
  · rw [if_neg (fun z => h (e.mp z)), if_neg h]
    have e2 : 0 < (q - r).num ↔ r < q := by
      have h1 : (0 : Int) ≤ (q - r).num ↔ 0 ≤ q - r := Rat.num_nonneg
      have h2 : (q - r).num ≠ 0 := fun z => h (e.mp z)
      constructor
      · intro z
        have := h1.mp (by omega)
        grind
      · intro z
        have : 0 ≤ q - r := by grind
        have := h1.mpr this
        omega
    by_cases z : r < q
    · rw [if_pos z, if_pos (e2.mpr z)]
    · rw [if_neg z, if_neg (fun y => z (e2.mp y))]
/-! bounds by powers of two -/
theorem lt_pow_mul {a b m n : Nat} (ha : a < 2 ^ m) (hb : b < 2 ^ n) : a * b < 2 ^ (m + n) := by
  rw [Nat.pow_add]
  exact Nat.mul_lt_mul'' ha hb
theorem lt_pow_add {a b n : Nat} (ha : a < 2 ^ n) (hb : b < 2 ^ n) : a + b < 2 ^ (n + 1) := by
  rw [Nat.pow_succ]; omega
theorem lt_pow_mono {a m n : Nat} (h : m ≤ n) (ha : a < 2 ^ m) : a < 2 ^ n := Nat.lt_of_lt_of_le ha (Nat.pow_le_pow_right (by decide) h)
theorem abs_add_le (a b : Int) : (a + b).natAbs ≤ a.natAbs + b.natAbs := by omega
theorem abs_sub_le (a b : Int) : (a - b).natAbs ≤ a.natAbs + b.natAbs := by omega
/-- a fraction within b bits -/
def Bd (b : Nat) (q : Rat) : Prop := q.num.natAbs < 2 ^ b ∧ q.den < 2 ^ b
theorem Bd.mono {b c : Nat} {q : Rat} (h : b ≤ c) (x : Bd b q) : Bd c q := ⟨lt_pow_mono h x.1, lt_pow_mono h x.2⟩
theorem bd_divInt {n d : Int} {b : Nat} (hd : d ≠ 0) (hn : n.natAbs < 2 ^ b) (hb : d.natAbs < 2 ^ b) : Bd b (Rat.divInt n d) :=
  ⟨Nat.lt_of_le_of_lt (num_le n d hd) hn, Nat.lt_of_le_of_lt (den_le n d hd) hb⟩
theorem bn_mul {i j : Int} {a b : Nat} (ha : i.natAbs < 2 ^ a) (hb : j.natAbs < 2 ^ b) : (i * j).natAbs < 2 ^ (a + b) := by
  rw [Int.natAbs_mul]
  exact lt_pow_mul ha hb
theorem bn_add {i j : Int} {a : Nat} (ha : i.natAbs < 2 ^ a) (hb : j.natAbs < 2 ^ a) : (i + j).natAbs < 2 ^ (a + 1) :=
  Nat.lt_of_le_of_lt (abs_add_le i j) (lt_pow_add ha hb)
theorem bn_sub {i j : Int} {a : Nat} (ha : i.natAbs < 2 ^ a) (hb : j.natAbs < 2 ^ a) : (i - j).natAbs < 2 ^ (a + 1) :=
  Nat.lt_of_le_of_lt (abs_sub_le i j) (lt_pow_add ha hb)
theorem bd_den {q : Rat} {b : Nat} (x : Bd b q) : (q.den : Int).natAbs < 2 ^ b := by
  have := x.2
  simpa using this
/-! Euclid's steps end -/
def euc : Nat → Nat → Nat → Nat × Nat
  | 0, a, b => (a, b)
  | n + 1, a, b => euc n b (a % b)
theorem mod_half {a b : Nat} (hb : 0 < b) (h : b ≤ a) : 2 * (a % b) < a := by
  have h1 : a % b < b := Nat.mod_lt _ hb
  have h2 := Nat.div_add_mod a b
  have h3 : 1 ≤ a / b := Nat.div_pos h hb
  have h4 : b * 1 ≤ b * (a / b) := Nat.mul_le_mul_left b h3
  omega
/-- one step halves the product once b is at most a -/
theorem step_half {a b n : Nat} (hb : 0 < b) (h : b ≤ a) (hp : a * b < 2 ^ (n + 1)) : b * (a % b) < 2 ^ n := by
  have h1 := mod_half hb h
  have h2 : b * (2 * (a % b)) ≤ b * a := Nat.mul_le_mul_left b (Nat.le_of_lt h1)
  rw [Nat.pow_succ] at hp
  have h3 : b * (2 * (a % b)) = 2 * (b * (a % b)) := Nat.mul_left_comm _ _ _
  have h4 : b * a = a * b := Nat.mul_comm _ _
  omega
/-- where one is with n steps left: small enough to end -/
def EucEnds (n a b : Nat) : Prop := b = 0 ∨ (b ≤ a ∧ 1 ≤ n ∧ a * b < 2 ^ (n - 1)) ∨ (2 ≤ n ∧ a * b < 2 ^ (n - 2))
theorem EucEnds.step {n a b : Nat} (hb : b ≠ 0) (h : EucEnds (n + 1) a b) : EucEnds n b (a % b) := by
  have hb0 : 0 < b := Nat.pos_of_ne_zero hb
  have hlt : a % b < b := Nat.mod_lt _ hb0
  rcases h with h | ⟨h1, h2, h3⟩ | ⟨h2, h3⟩
  · exact absurd h hb
  · cases n with
    | zero =>
      have : a * b < 1 := h3
      have h5 : 0 < a * b := Nat.mul_pos (Nat.lt_of_lt_of_le hb0 h1) hb0
      omega
    | succ n =>
      refine .inr (.inl ⟨Nat.le_of_lt hlt, by omega, ?_⟩)
      exact step_half hb0 h1 h3
  · have h6 : b * (a % b) ≤ a * b := by
      rw [Nat.mul_comm]
      exact Nat.mul_le_mul_right b (Nat.mod_le a b)
    refine .inr (.inl ⟨Nat.le_of_lt hlt, by omega, ?_⟩)
    exact Nat.lt_of_le_of_lt h6 (by simpa using h3)
theorem EucEnds.zero {a b : Nat} (h : EucEnds 0 a b) : b = 0 := by
  rcases h with h | ⟨_, h, _⟩ | ⟨h, _⟩ <;> omega
theorem gcd_step {a b g : Nat} (h : Nat.gcd a b = g) : Nat.gcd b (a % b) = g := by
  rw [← h, Nat.gcd_comm a b, Nat.gcd_rec b a, Nat.gcd_comm]
theorem gcd_end {a g : Nat} (h : Nat.gcd a 0 = g) : a = g := by rw [← h, Nat.gcd_zero_right]
end Jf
set_option Elab.async false
set_option linter.all false
namespace Jf
theorem cmp_64 (q r : Rat) : (cmp q r).natAbs < 2 ^ 64 := by
  have : (cmp q r).natAbs ≤ 1 := by unfold cmp; split <;> (try split) <;> decide
  exact Nat.lt_of_le_of_lt this (by decide)
theorem cmp_anti (q r : Rat) : cmp q r = 0 - cmp r q := by unfold cmp; grind
theorem cmp_add (q r s : Rat) : cmp (q + s) (r + s) = cmp q r := by unfold cmp; grind
theorem cmp_sub (q r : Rat) : cmp (q - r) 0 = cmp q r := by unfold cmp; grind
theorem cmp_zero (q r : Rat) : cmp q r = 0 ↔ q = r := by unfold cmp; grind
theorem cmp_trans {q r s : Rat} (h1 : 0 ≤ cmp q r) (h2 : 0 ≤ cmp r s) : ¬ cmp q s < 0 := by unfold cmp at *; grind
theorem cmp_mul (q r s : Rat) : cmp (q * s) (r * s) = cmp q r * cmp s 0 := by
  unfold cmp
  by_cases h : q = r
  · subst h; simp
  · by_cases h0 : s = 0
    · subst h0; simp
    · have e1 : (q - r) * s ≠ 0 := by
        intro e
        rcases Rat.mul_eq_zero.mp e with e | e <;> grind
      have ne : ¬ q * s = r * s := by grind
      rw [if_neg ne, if_neg h, if_neg h0]
      by_cases hs : 0 < s
      · by_cases hq : r < q
        · have := Rat.mul_pos (show 0 < q - r by grind) hs
          grind
        · have := Rat.mul_pos (show 0 < r - q by grind) hs
          grind
      · by_cases hq : r < q
        · have := Rat.mul_pos (show 0 < q - r by grind) (show 0 < -s by grind)
          grind
        · have := Rat.mul_pos (show 0 < r - q by grind) (show 0 < -s by grind)
          grind
theorem six (q : Rat) : Rat.divInt (q.num * 6) (q.den * 6) = q := by
  rw [← Rat.divInt_mul_divInt, Rat.num_divInt_den, Rat.divInt_self' (by decide), Rat.mul_one]
theorem negs (q : Rat) : Rat.divInt (0 - q.num) (0 - q.den) = q := by
  rw [show 0 - q.num = q.num * (-1) by omega, show (0 : Int) - q.den = q.den * (-1) by omega, ← Rat.divInt_mul_divInt, Rat.num_divInt_den, Rat.divInt_self' (by decide), Rat.mul_one]
theorem r_assoc (a b c : Rat) : a + b + c = a + (b + c) := by grind
theorem r_massoc (a b c : Rat) : a * b * c = a * (b * c) := by grind
theorem r_dist (a b c : Rat) : a * (b + c) = a * b + a * c := by grind
theorem r_addsub (a b : Rat) : a + b - b = a := by grind
theorem r_subadd (a b : Rat) : a - b + b = a := by grind
theorem r_divmul (a b : Rat) (h : b ≠ 0) : a / b * b = a := by grind
theorem r_muldiv (a b : Rat) (h : b ≠ 0) : a * b / b = a := by grind
end Jf
set_option Elab.async false
set_option linter.all false
set_option maxRecDepth 100000
set_option maxHeartbeats 4000000
namespace Jf
open PySem PySem.Spec PyProof.Rows L2 Evl
/-- a def of the text behind the top -/
structure FT (K : PySem.W.Frag) (mg : Str → Option Value) (x : Str) (st : Stmt) (ps : List Str) where
  a : Addr
  fd : FuncData
  F : Fun K x x st a fd
  b : Binds K fd ps []
  g : mg x = some (.ref a)
/-- // by a divisor that is not 0, below 2 ^ 9000 in size -/
def CDivZ (_ j : Int) : Prop := j ≠ 0 ∧ j.natAbs.log2 < 9000
theorem op_fdivZ {X : Cx} : OpR X (binaryOp .FloorDiv) (rI CDivZ fun i j => .int (i.fdiv j)) := opI fun i j _ _ _ _ _ hc q =>
  floordiv_int hc.1 q (.inl (PyProof.noPylong_of_log2 hc.2))
theorem log_lt {j : Nat} {b c : Nat} (h : j < 2 ^ b) (hc : b ≤ c) (h0 : 0 < c) : j.log2 < c :=
  Nat.lt_of_lt_of_le (PySem.Flt.log2_lt_of h0 (lt_pow_mono hc h)) (Nat.le_refl _)
theorem mulW {i j : Int} {a b : Nat} (ha : i.natAbs < 2 ^ a) (hb : j.natAbs < 2 ^ b) (h : a + b ≤ 900000) : CMulW i j :=
  wide_mul (lt_pow_mono (Nat.le_succ a) ha) (lt_pow_mono (Nat.le_succ b) hb) (Nat.succ_pos _) (Nat.succ_pos _) (by omega)

/-! ### what evaluates to a value of a kind -/
def EvP (te : TE) (σ : L2.St) (H : Hp) (P : V → Hp → Prop) : Prop := ∀ H1, Ex H H1 → ∀ Q : VK, (∀ v H2, Ex H1 H2 → P v H2 → Q v H2) → te σ H1 Q
/-- a fraction of at most b bits stands at v -/
def Fr (K : PySem.W.Frag) (b : Nat) (q : Rat) (v : V) (H : Hp) : Prop := ∃ p, v = .ref p ∧ SqT K H p [.int q.num, .int (q.den : Int)] ∧ Bd b q
section
variable {K : PySem.W.Frag} {σ : L2.St} {H H' : Hp} {te ta tb : TE} {P : V → Hp → Prop} {v : V} {b c n : Nat} {q r : Rat}
theorem Fr.ex (e : Ex H H') (h : Fr K b q v H) : Fr K b q v H' := by
  obtain ⟨p, rfl, h, x⟩ := h
  exact ⟨p, rfl, ex_t e h, x⟩
theorem Fr.mono (e : b ≤ c) (h : Fr K b q v H) : Fr K c q v H := by
  obtain ⟨p, rfl, h, x⟩ := h
  exact ⟨p, rfl, h, x.mono e⟩
theorem Fr.bd (h : Fr K b q v H) : Bd b q := h.choose_spec.2.2
theorem EvP.mono (e : Ex H H') (h : EvP te σ H P) : EvP te σ H' P := fun H1 a Q q => h H1 (e.trans a) Q q
theorem ep_var {i : Nat} (h : σ[i]? = some (some v)) (hf : Fr K b q v H) : EvP (tVar i) σ H (Fr K b q) := fun H1 e _ k => ⟨v, h, k v H1 (Ex.refl H1) (hf.ex e)⟩
theorem ep_mono (h : EvP te σ H (Fr K b q)) (e : b ≤ c) : EvP te σ H (Fr K c q) := fun H1 a Q k => h H1 a Q fun v H2 e2 f => k v H2 e2 (f.mono e)
theorem ep_is (h : EvP te σ H (Fr K b q)) (e : q = r) : EvP te σ H (Fr K b r) := e ▸ h
theorem ev_0 (h : EvP te σ H (Fr K b q)) : Ev (tOp (rIxT K) te (tC (.int 0))) σ H (.int q.num) := fun H1 a Q k => h H1 a _ fun v H2 e2 f => by
  obtain ⟨p, rfl, f, _⟩ := f
  exact ⟨p, _, 0, .int q.num, rfl, rfl, f, rfl, k H2 e2⟩
theorem ev_1 (h : EvP te σ H (Fr K b q)) : Ev (tOp (rIxT K) te (tC (.int 1))) σ H (.int (q.den : Int)) := fun H1 a Q k => h H1 a _ fun v H2 e2 f => by
  obtain ⟨p, rfl, f, _⟩ := f
  exact ⟨p, _, 1, .int (q.den : Int), rfl, rfl, f, rfl, k H2 e2⟩
/-- a new pair of ints that are a fraction's -/
theorem ep_tup {x y : Int} (ha : Ev ta σ H (.int x)) (hb : Ev tb σ H (.int y)) (e1 : x = q.num) (e2 : y = (q.den : Int)) (bd : Bd b q) : EvP (tTup (tCons ta (tCons tb tNil))) σ H (Fr K b q) := fun H1 a Q k =>
  ha H1 a _ fun H2 a2 => hb H2 (a.trans a2) _ fun H3 a3 => ⟨by show 2 ≤ sizeLine; decide, fun p hp => k _ _ ((a2.trans a3).trans (Ex.new hp)) ⟨p, rfl, by subst e1 e2; exact SqT.of upd_same, bd⟩⟩
theorem ev_mulW {x y : Int} (ha : Ev ta σ H (.int x)) (hb : Ev tb σ H (.int y)) (h : CMulW x y) : Ev (tOp (rI CMulW fun i j => .int (i * j)) ta tb) σ H (.int (x * y)) := ev_op ha hb (rv_I h)
theorem ev_add {x y : Int} (ha : Ev ta σ H (.int x)) (hb : Ev tb σ H (.int y)) : Ev (tOp (rI0 fun i j => .int (i + j)) ta tb) σ H (.int (x + y)) := ev_op ha hb rv_I0
theorem ev_sub {x y : Int} (ha : Ev ta σ H (.int x)) (hb : Ev tb σ H (.int y)) : Ev (tOp (rI0 fun i j => .int (i - j)) ta tb) σ H (.int (x - y)) := ev_op ha hb rv_I0
theorem ev_fdivZ {x y : Int} (ha : Ev ta σ H (.int x)) (hb : Ev tb σ H (.int y)) (h : CDivZ x y) : Ev (tOp (rI CDivZ fun i j => .int (i.fdiv j)) ta tb) σ H (.int (x.fdiv y)) := ev_op ha hb (rv_I h)
theorem ev_neg {x : Int} (ha : Ev ta σ H (.int x)) : Ev (tUn (rU fun i => .int (-i)) ta) σ H (.int (-x)) := ev_un ha ru_neg
theorem s_retP {D : Ends} (h : EvP te σ H P) (k : ∀ v H1, Ex H H1 → P v H1 → D.rt v H1) : tRet te D σ H := h H (Ex.refl H) _ k
theorem s_asgP {D : Ends} {i : Nat} (h : EvP te σ H P) (k : ∀ v H1, Ex H H1 → P v H1 → D.nx (σ.set i (some v)) H1) : tAsg te (gName i) D σ H := h H (Ex.refl H) _ k
theorem s_dropP {D : Ends} (h : EvP te σ H P) (k : ∀ v H1, Ex H H1 → P v H1 → D.nx σ H1) : tDrop te D σ H := h H (Ex.refl H) _ k

/-! ### deep equality of two fractions -/
theorem Fr.dp (h : Fr K b q v H) : Dp K H v (.tuple [.int q.num, .int (q.den : Int)]) := by
  obtain ⟨p, rfl, h, _⟩ := h
  exact .tup h (.cons (.int _) (.cons (.int _) .nil))
theorem eqv_fr (q r : Rat) : PyData.eqv (.tuple [.int q.num, .int (q.den : Int)]) (.tuple [.int r.num, .int (r.den : Int)]) = decide (q = r) := by
  simp only [PyData.eqv, PyData.eqvAll, Bool.and_true]
  have e : q = r ↔ q.num = r.num ∧ (q.den : Int) = (r.den : Int) := by
    constructor
    · rintro rfl
      exact ⟨rfl, rfl⟩
    · rintro ⟨h1, h2⟩
      exact Rat.ext h1 (by omega)
  rw [Bool.eq_iff_iff]
  simp [e]
theorem ev_neD (ha : EvP ta σ H (Fr K b q)) (hb : EvP tb σ H (Fr K c r)) : Ev (tOp (rNeD K) ta tb) σ H (.bl (!decide (q = r))) := fun H1 a Q k =>
  ha H1 a _ fun x H2 a2 f => hb H2 (a.trans a2) _ fun y H3 a3 g => ⟨_, _, (f.ex a3).dp, g.dp, rfl, rfl, by
    rw [eqv_fr]
    exact k H3 (a2.trans a3)⟩
theorem ev_eqD (ha : EvP ta σ H (Fr K b q)) (hb : EvP tb σ H (Fr K c r)) : Ev (tOp (rEqD K) ta tb) σ H (.bl (decide (q = r))) := fun H1 a Q k =>
  ha H1 a _ fun x H2 a2 f => hb H2 (a.trans a2) _ fun y H3 a3 g => ⟨_, _, (f.ex a3).dp, g.dp, rfl, rfl, by
    rw [eqv_fr]
    exact k H3 (a2.trans a3)⟩

/-! ### a def of two fractions -/
/-- op q r, of b + c + 1 bits at most -/
def sp2 (K : PySem.W.Frag) (ok : Rat → Prop) (f : Rat → Rat → Rat) : Sp := fun vs H Q _ => ∃ (u v : V) (b c : Nat) (q r : Rat), vs = [u, v] ∧ Fr K b q u H ∧ Fr K c r v H ∧ b + c + 1 ≤ 8000 ∧ ok r ∧
  ∀ z H', Ex H H' → Fr K (b + c + 1) (f q r) z H' → Q z H'
theorem ep_2 {ok : Rat → Prop} {f : Rat → Rat → Rat} {E : XK} (ha : EvP ta σ H (Fr K b q)) (hb : EvP tb σ H (Fr K c r)) (hk : ok r) (hl : b + c + 1 ≤ 8000) (hn : b + c + 1 = n) : EvP (tCall (sp2 K ok f) [] E (tCons ta (tCons tb tNil))) σ H (Fr K n (f q r)) := fun H1 a Q k =>
  ha H1 a _ fun x H2 a2 g => hb H2 (a.trans a2) _ fun y H3 a3 h => ⟨x, y, b, c, q, r, rfl, g.ex a3, h, hl, hk, fun z H' e w => k z H' ((a2.trans a3).trans e) (by subst hn; exact w)⟩
/-- compare -/
def spC (K : PySem.W.Frag) : Sp := fun vs H Q _ => ∃ (u v : V) (b c : Nat) (q r : Rat), vs = [u, v] ∧ Fr K b q u H ∧ Fr K c r v H ∧ b + c + 1 ≤ 8000 ∧ ∀ H', Ex H H' → Q (.int (cmp q r)) H'
theorem ev_C {E : XK} (ha : EvP ta σ H (Fr K b q)) (hb : EvP tb σ H (Fr K c r)) (hl : b + c + 1 ≤ 8000) : Ev (tCall (spC K) [] E (tCons ta (tCons tb tNil))) σ H (.int (cmp q r)) := fun H1 a Q k =>
  ha H1 a _ fun x H2 a2 g => hb H2 (a.trans a2) _ fun y H3 a3 h => ⟨x, y, b, c, q, r, rfl, g.ex a3, h, hl, fun H' e => k H' ((a2.trans a3).trans e)⟩
/-- is_fraction of a fraction; require_fraction of one -/
def spIs (K : PySem.W.Frag) (x : V) : Sp := fun vs H Q _ => ∃ (u : V) (b : Nat) (q : Rat), vs = [u] ∧ Fr K b q u H ∧ ∀ H', Ex H H' → Q x H'
theorem ev_Is {E : XK} {x : V} (ha : EvP ta σ H (Fr K b q)) : Ev (tCall (spIs K x) [] E (tCons ta tNil)) σ H x := fun H1 a Q k =>
  ha H1 a _ fun u H2 a2 g => ⟨u, b, q, rfl, g, fun H' e => k H' (a2.trans e)⟩
/-- lowest, fraction of two ints -/
def spLow (K : PySem.W.Frag) : Sp := fun vs H Q _ => ∃ (n d : Int) (b : Nat), vs = [.int n, .int d] ∧ d ≠ 0 ∧ n.natAbs < 2 ^ b ∧ d.natAbs < 2 ^ b ∧ b ≤ 8000 ∧ ∀ z H', Ex H H' → Fr K b (Rat.divInt n d) z H' → Q z H'
theorem ep_Low {E : XK} {x y : Int} (ha : Ev ta σ H (.int x)) (hb : Ev tb σ H (.int y)) (hd : y ≠ 0) (hx : x.natAbs < 2 ^ b) (hy : y.natAbs < 2 ^ b) (hl : b ≤ 8000) (hq : Rat.divInt x y = q) : EvP (tCall (spLow K) [] E (tCons ta (tCons tb tNil))) σ H (Fr K b q) := fun H1 a Q k =>
  ha H1 a _ fun H2 a2 => hb H2 (a.trans a2) _ fun H3 a3 => ⟨x, y, b, rfl, hd, hx, hy, hl, fun z H' e w => k z H' ((a2.trans a3).trans e) (by subst hq; exact w)⟩
/-- of any int whether it is one; require_whole -/
def spWhole (x : V) : Sp := fun vs H Q _ => ∃ n : Int, vs = [.int n] ∧ ∀ H', Ex H H' → Q x H'
theorem ev_Whole {E : XK} {x : V} {n : Int} (ha : Ev ta σ H (.int n)) : Ev (tCall (spWhole x) [] E (tCons ta tNil)) σ H x := fun H1 a Q k =>
  ha H1 a _ fun H2 a2 => ⟨n, rfl, fun H' e => k H' (a2.trans e)⟩
end
end Jf
set_option Elab.async false
set_option linter.all false
set_option maxRecDepth 100000
set_option maxHeartbeats 4000000
namespace Jf
open PySem PySem.Spec PyProof.Rows L2 Evl
/-! ### defs that show data: no list or tuple is being shown when they are called -/
structure FnG (P : Program) (w : World) (K : PySem.W.Frag) (mg : Str → Option Value) (base : Heap) (k : Nat) (f : Addr) (fd : FuncData) (ps : List Str) (sp : Sp) : Prop where
  size : ∀ vs H Q E, sp vs H Q E → vs.length = ps.length
  go : ∀ (A : Around) (outer : List Env) (s : Shared) (H : Hp) (args : Args) (us : List Value) (vs : List V) (Q : VK), A.guards = some [] → Room k A →
    Env0 P w K mg base A outer s H → BindsTo s fd args (ps.zip us) → Vals vs us → sp vs H Q E0 → codeAny (model P w) A (.call (.ref f) args) (CR CX0 outer P w H s Q E0) s
section
variable {X : Cx} {k : Nat} {f : Addr} {fd : FuncData} {ps : List Str} {sp : Sp} {x : Str} {p pos : Pos} {e : Expr} {es : List Expr} {t : TA}
/-- f(e, ..) of such a def -/
theorem pe_callG (F : FnG X.prog X.w X.K X.mg X.base k f fd ps sp) (gd : X.A.guards = some []) (hr : Room k X.A) (hg : Gl X x) (hm : X.mg x = some (.ref f)) (hk : PySem.W.keepIn X.K (.ref f) = true) (hb : Binds X.K fd ps [])
    (ha : PA X (e :: es) t) (hdb : (x == ("__debug__" : Str)) = false := by decide)
    (he : starEach (e :: es) X.env = (false, eval e X.env) :: starEach es X.env := by rfl)
    (hpl : (backTo pos (starEach es X.env)).any (·.1) = false := by rfl) : PE X (.Call (.Name x p) (e :: es) [] pos) (tCall sp [] E0 t) := by
  constructor
  intro pins s σ H Q I h
  apply wpAny_Call_Name_kw
  apply ld_glob I hg hm _ hdb
  apply PySem.W.callWith_K (h₀ := X.base) I.ok.mod.kin hk _ he hpl
  apply thn (ha.run pos pins s σ H _ I h)
  rintro us s1 ⟨vs, H1, I1, r, q⟩
  refine ⟨I1.kIn, ?_⟩
  have q' : sp vs H1 Q E0 := by
    have z := q
    rw [List.append_nil] at z
    exact z
  have hz : us.length = ps.length := r.length ▸ F.size _ _ _ _ q'
  have bt := hb s1 us I1.kIn (by simpa using hz)
  rw [List.append_nil] at bt
  apply wpAny_call
  apply codeAny_mono (F.go X.A X.stack s1 H1 ⟨us, []⟩ us vs Q gd hr I1.env0 bt r q')
  intro res s' hq
  match res, hq with
  | .ok (.ret u), hq => exact I1.after hq
  | .error _, hq => exact False.elim hq
end
section
variable {P : Program} {w : World} {K : PySem.W.Frag} {mg : Str → Option Value} {base : Heap}
/-- such a def, by its body -/
theorem okG {x qual : Str} {st : Stmt} {f : Addr} {fd : FuncData} {N ps : List Str} {k : Nat} {sp : Sp} (F : Fun K x qual st f fd) (S : FnScope N ps (defScope st)) (len : ∀ vs H Q E, sp vs H Q E → vs.length = ps.length)
    (body : ∀ (cdv : Value) (A : Around) (outer : List Env) (s : Shared) (H : Hp) (vs : List V) (Q : VK), A.guards = some [] → Room k (A.deeper (envOfC qual (defScope st) s.heap.objs.size f cdv)) → sp vs H Q E0 →
      ∃ t, PSs (cxOf CX0 P w K mg base N qual (defScope st) f cdv A outer s H E0).nox (defBody st) t ∧ t { nx := fun _ H' => Q .non H', rt := Q } (start N vs) H) :
    FnG P w K mg base (k + 1) f fd ps sp := by
  obtain ⟨oc, od, kV, doc, pm, an, cdv, ct, osl, rfl, lk, hcd⟩ := F.ex
  constructor
  · exact len
  intro A outer s H args us vs Q gd hr e0 hb r hsp
  have here : ∀ b o, base.get? b = some o → s.heap.get? b = some o := fun b o e => (e0.bs b o e).1
  have KX : K.In s.heap := e0.mod.kin.keeps here
  have par : ∀ y ∈ ps.zip us, (defScope st).names.lookup y.1 = some .local ∨ ((defScope st).names.lookup y.1 = some .cell ∧ ((cellsFrom (s.heap.objs.size + 1) (defScope st).names []).lookup y.1).isSome = true) := by
    rintro ⟨n, v⟩ hy
    have q := S.par n (List.of_mem_zip hy).1
    exact q.imp id fun z => ⟨z, PySem.W.cellsFrom_some _ _ _ (.inl z)⟩
  apply codeAny_call_function hr.depth (KX _ _ lk) rfl S.co S.gen rfl (PySem.W.codeRec_of KX hcd)
  apply hb
  apply wpAny_newFunctionEnv_cells S.kind par
  intro env he s1 ic
  subst he
  refine ⟨(e0.mod.nolimit.keeps here).keeps ic.toInCall.keep, codeAny_func ?_⟩
  obtain ⟨t, ht, hq⟩ := body cdv A outer s H vs Q gd (hr.deeper _) hsp
  have I0 := inv_start (CX := CX0) (E := E0) S hr.hd e0 (len _ _ _ _ hsp) r ic
  apply wpAny_mono (ht.nox.run [] s1 (start N vs) H _ I0 hq)
  · intro fl s' hs
    match fl, hs with
    | .ret u, ⟨v, σ', H', J, rv, q⟩ => exact ⟨v, H', J.os, J.bare, J.base, J.hok, rv, q⟩
    | .next, ⟨σ', H', J, q⟩ => exact ⟨V.non, H', J.os, J.bare, J.base, J.hok, rfl, q⟩
    | .brk, ⟨_, _, _, q⟩ => exact False.elim q
    | .cont, ⟨_, _, _, q⟩ => exact False.elim q
  · intro e s' hs
    exact hs
end
/-! ### isinstance of the error that a suite holds, its own dict read -/
/-- what its class must say -/
structure ErrC (K : PySem.W.Frag) (C : Addr) : Prop where
  cl : (PySem.W.clsIn K C).isSome = true
  ga : PySem.W.findIn K (.ref C) "__getattribute__" = some (some (.builtin "BaseException.__getattribute__"))
  gg : PySem.W.findIn K (.ref C) "__getattr__" = some none
  ex : PySem.W.subIn K (.ref C) (.type "BaseException") = some true
  hd : PySem.W.hasDictIn K C = true
  kc : PySem.W.findIn K (.ref C) "__class__" = some (some (.builtin "object.__class__"))
  sp : PySem.W.specialIn K (.builtin "object.__class__") "__get__" = some (some (.builtin "getset_descriptor.__get__"))
  tk : PySem.W.takesIn K (.builtin "object.__class__") = some true
  mo : PySem.W.mroIn K C (.type "object") = some true
def rIsD (K : PySem.W.Frag) (a : Addr) (cls : Value) (d : Option Addr) : List V → Hp → VK → Prop := fun xs H Q => ∃ (C B dd : Addr) (fs : List (Str × V)) (b : Bool), xs = [.ref a, .ref B] ∧ cls = .ref C ∧ ErrC K C ∧ d = some dd ∧ H dd = some (.xd fs) ∧ PySem.W.kitOne K (.ref C) (.ref B) = some b ∧ Q (.bl b) H
theorem call_isD {X : Cx} {a : Addr} {oe : Obj} {cls : Value} {d : Option Addr} {pn : List (Addr × Obj)} (hz : Zc cls d oe) (hf : ∃ vs, oe.data = .fields vs) : CallR (X.suite a ((a, oe) :: pn)) (.builtin "isinstance") (rIsD X.K a cls d) := by
  intro pins s σ H xs us Q I r h
  obtain ⟨C, B, dd, fs, b, rfl, rfl, T, rfl, ed, hk, q⟩ := h
  cases r with
  | cons rx rr =>
    cases rr with
    | cons rt rr =>
      cases rr
      cases rx
      cases rt
      have hget := (I.pin (a, oe) (List.mem_append_left _ List.mem_cons_self)).1
      obtain ⟨vs, hv⟩ := hf
      have hx : ObjOk X.prog X.w H s.heap dd (.xd fs) := I.hok dd _ ed
      obtain ⟨mA, hns, _⟩ := hx
      obtain ⟨od, ho, _⟩ := lookIn_ns hns
      have J : PySem.W.InstAt s.heap a oe C (some od) := by
        refine ⟨hget, hz.1, ?_, ?_⟩
        · unfold PySem.W.notCls
          rw [hv] <;> rfl
        · rw [hz.2]
          exact ho
      refine PySem.W.kia_one (PySem.W.kitx_exc T.cl T.ga T.gg T.ex T.kc T.sp T.tk T.mo) I.kIn J hk (fun z => nomatch z) ?_
      intro tk
      exact ⟨.bl b, H, I.kept (t' := tk) fun _ _ z => z, rfl, q⟩
/-! ### repr -/
/-- a list that is written out: it isn't at sys.modules -/
def tLstN (t : TA) : TE := fun σ H Q => t σ H fun xs H1 => xs.length ≤ sizeLine ∧ ∀ p, H1 p = none → p ≠ sysModules → Q (.ref p) (upd H1 p (.lst xs))
theorem pe_lstN {X : Cx} {es : List Expr} {t : TA} {pos : Pos} (h : PA X es t) : PE X (.List es pos) (tLstN t) := by
  constructor
  intro pins s σ H Q I want
  apply wpAny_List_spliced
  apply thn (h.run pos pins s σ H _ I want)
  rintro us s1 ⟨xs, H1, I1, vals, len, k⟩
  have free : H1 s1.heap.objs.size = none := I1.hok.fresh (Nat.le_refl _)
  refine ⟨vals.length ▸ len, .ref _, upd H1 _ (.lst xs), I1.laid (t' := s1.toks) (fun _ _ e => Heap.get?_push_of_some _ e) (Nat.le_refl _) ⟨len, us, 0, vals, Heap.get?_push_size _ rfl⟩, rfl, ?_⟩
  exact k _ free (Nat.ne_of_gt I1.big)
mutual
/-- data at a value: lists that are tracked (and are not what stands at p), tuples, the empty dict -/
inductive Dq (K : PySem.W.Frag) (p : Addr) (H : Hp) : V → PyData → Prop
  | non : Dq K p H .non .none
  | bl (b : Bool) : Dq K p H (.bl b) (.bool b)
  | int (i : Int) : Dq K p H (.int i) (.int i)
  | str (x : Str) : Dq K p H (.str x) (.str x)
  | lst {a : Addr} {xs : List V} {ds : List PyData} : a ≠ p → a ≠ sysModules → H a = some (.lst xs) → DqAll K p H xs ds → Dq K p H (.ref a) (.list ds)
  | tup {a : Addr} {xs : List V} {ds : List PyData} : SqT K H a xs → DqAll K p H xs ds → Dq K p H (.ref a) (.tuple ds)
  | emp {a : Addr} : H a = some (.dK []) → Dq K p H (.ref a) (.dict [])
inductive DqAll (K : PySem.W.Frag) (p : Addr) (H : Hp) : List V → List PyData → Prop
  | nil : DqAll K p H [] []
  | cons {v : V} {vs : List V} {d : PyData} {ds : List PyData} : Dq K p H v d → DqAll K p H vs ds → DqAll K p H (v :: vs) (d :: ds)
end
mutual
theorem Dq.ex {K : PySem.W.Frag} {p : Addr} {H H' : Hp} (e : Ex H H') : ∀ (d : PyData) (v : V), Dq K p H v d → Dq K p H' v d
  | _, _, .non => .non
  | _, _, .bl b => .bl b
  | _, _, .int i => .int i
  | _, _, .str x => .str x
  | _, _, .lst n m h hs => .lst n m (e _ _ h) (DqAll.ex e _ _ hs)
  | _, _, .tup h hs => .tup (ex_t e h) (DqAll.ex e _ _ hs)
  | _, _, .emp h => .emp (e _ _ h)
theorem DqAll.ex {K : PySem.W.Frag} {p : Addr} {H H' : Hp} (e : Ex H H') : ∀ (ds : List PyData) (vs : List V), DqAll K p H vs ds → DqAll K p H' vs ds
  | _, _, .nil => .nil
  | _, _, .cons h hs => .cons (Dq.ex e _ _ h) (DqAll.ex e _ _ hs)
end
section
variable {X : Cx} {pins : List (Addr × Obj)} {σ : L2.St} {H : Hp} {s : Shared}
mutual
theorem Dq.reads {p : Addr} (I : Inv X pins σ H s) : ∀ (d : PyData) (v : V) (u : Value), Dq X.K p H v d → RelV v u → ∃ as, Reads s.heap u d as ∧ sysModules ∉ as
  | _, _, u, .non, r => by
    cases (show u = Value.none from r)
    exact ⟨_, .none, by simp⟩
  | _, _, u, .bl b, r => by
    cases (show u = Value.bool b from r)
    exact ⟨_, .bool b, by simp⟩
  | _, _, u, .int i, r => by
    obtain ⟨t, q⟩ := (show ∃ t, u = Value.int i t from r)
    cases q
    exact ⟨_, .int i t, by simp⟩
  | _, _, u, .str x, r => by
    obtain ⟨t, q⟩ := (show ∃ t, u = Value.str x t from r)
    cases q
    exact ⟨_, .str x t, by simp⟩
  | _, _, u, .lst (a := a) _ m h hs, r => by
    cases (show u = Value.ref a from r)
    have hx : ObjOk X.prog X.w H s.heap a (.lst _) := I.hok a _ h
    obtain ⟨_, its, n, rv, e⟩ := hx
    obtain ⟨as, q, nm⟩ := DqAll.reads I _ _ _ hs rv
    exact ⟨_, .list e rfl rfl (by simpa using q), by
      simp only [List.mem_cons, not_or]
      exact ⟨m.symm, nm⟩⟩
  | _, _, u, .tup (a := a) h hs, r => by
    cases (show u = Value.ref a from r)
    obtain ⟨its, rv, ⟨o, e, c, n, dd⟩, _⟩ := I.tuple h
    obtain ⟨as, q, nm⟩ := DqAll.reads I _ _ _ hs rv
    exact ⟨_, .tuple e c dd (by simpa using q), nm⟩
  | _, _, u, .emp (a := a) h, r => by
    cases (show u = Value.ref a from r)
    obtain ⟨_, nsm, vs, kv, o, es, ep, e, x, dd, _, pr, _⟩ := dk_of I.hok h
    cases kv
    have e0 : es.toList = [] := by
      cases hh : es.toList with
      | nil => rfl
      | cons y ys =>
        rw [hh] at pr
        cases pr
    exact ⟨_, .dict (as := []) (bs := []) e x.1 dd (by rw [e0]; exact .nil) (by rw [e0]; exact .nil), by
      have := (beq_eq_false_iff_ne.mp nsm).symm
      simpa using this⟩
theorem DqAll.reads {p : Addr} (I : Inv X pins σ H s) : ∀ (ds : List PyData) (vs : List V) (us : List Value), DqAll X.K p H vs ds → Vals vs us → ∃ as, ReadsAll s.heap us ds as ∧ sysModules ∉ as
  | _, _, us, .nil, r => by
    cases r
    exact ⟨_, .nil, by simp⟩
  | _, _, us, .cons h hs, r => by
    cases r with
    | cons r1 r2 =>
      obtain ⟨as, q1, n1⟩ := Dq.reads I _ _ _ h r1
      obtain ⟨bs, q2, n2⟩ := DqAll.reads I _ _ _ hs r2
      exact ⟨_, .cons q1 q2, by
        simp only [List.mem_append, not_or]
        exact ⟨n1, n2⟩⟩
end
end
mutual
theorem Dp.nd {K : PySem.W.Frag} {H : Hp} : ∀ (d : PyData) (v : V), Dp K H v d → d.hasDict = false
  | _, _, .non => rfl
  | _, _, .bl _ => rfl
  | _, _, .int _ => rfl
  | _, _, .str _ => rfl
  | _, _, .lst _ hs => by simp only [PyData.hasDict]; exact DpAll.nd _ _ hs
  | _, _, .tup _ hs => by simp only [PyData.hasDict]; exact DpAll.nd _ _ hs
theorem DpAll.nd {K : PySem.W.Frag} {H : Hp} : ∀ (ds : List PyData) (vs : List V), DpAll K H vs ds → PyData.hasDictAll ds = false
  | _, _, .nil => rfl
  | _, _, .cons h hs => by simp only [PyData.hasDictAll, Dp.nd _ _ h, DpAll.nd _ _ hs, Bool.or_false]
end
def rRepr (K : PySem.W.Frag) : List V → Hp → VK → Prop := fun xs H Q => ∃ (x : V) (d : PyData) (p : Addr), xs = [x] ∧ (Dq K p H x d ∨ Dp K H x d) ∧ d.showable = true ∧ d.depth ≤ 60 ∧ d.shown.length ≤ sizeLine ∧ Q (.str d.shown) H
section
variable {X : Cx}
theorem call_repr (gd : X.A.guards = some []) (hu : X.A.units + 64 < cLine) : CallR X (.builtin "repr") (rRepr X.K) := by
  intro pins s σ H xs us Q I r h
  obtain ⟨x, d, p, rfl, hd, hs, hdep, hz, q⟩ := h
  cases r with
  | cons r1 r2 =>
    cases r2
    rename_i u
    obtain ⟨as, hr, nm⟩ : ∃ as, Reads s.heap u d as ∧ (d.hasDict = true → sysModules ∉ as) := by
      rcases hd with hd | hd
      · obtain ⟨as, hr, nm⟩ := Dq.reads I d x u hd r1
        exact ⟨as, hr, fun _ => nm⟩
      · obtain ⟨as, hr⟩ := Dp.reads I d x u hd r1
        exact ⟨as, hr, fun z => by rw [Dp.nd d x hd] at z; cases z⟩
    have fin : ∀ h' u' tk, (∀ b o, s.heap.get? b = some o → h'.get? b = some o) → EP X pins σ Q (.str d.shown u') { s with heap := h', toks := tk } := fun h' u' tk hk => ⟨.str d.shown, H, I.kept hk, ⟨_, rfl⟩, q⟩
    have f0 := fin s.heap s.toks (s.toks + 1) (fun _ _ z => z)
    cases hr with
    | none => exact PySem.P.repr_of_none (by simpa [PyData.shown] using f0)
    | bool b => exact PySem.P.repr_of_bool (by simpa [PyData.shown] using f0)
    | int i t => exact PySem.P.repr_of_int (by simpa [PyData.showable] using hs) (by simpa [PyData.shown] using f0)
    | str y t => exact PySem.P.repr_of_str (by simpa [PyData.shown] using f0) (by simpa [PyData.shown] using hz)
    | list h1 h2 h3 h4 => exact repr_of_reads' (.list h1 h2 h3 h4) hs nm gd (by omega) (fun _ _ z => z) (fun h' u' tk hk => fin h' u' tk hk) hz
    | tuple h1 h2 h3 h4 => exact repr_of_reads' (.tuple h1 h2 h3 h4) hs nm gd (by omega) (fun _ _ z => z) (fun h' u' tk hk => fin h' u' tk hk) hz
    | dict h1 h2 h3 h4 h5 => exact repr_of_reads' (.dict h1 h2 h3 h4 h5) hs nm gd (by omega) (fun _ _ z => z) (fun h' u' tk hk => fin h' u' tk hk) hz
end
end Jf
set_option Elab.async false
set_option linter.all false
set_option maxRecDepth 100000
set_option maxHeartbeats 4000000
namespace Jf
open PySem PySem.Spec PyProof.Rows L2 Evl
/-! ### how long shown data is -/
def lens : List Str → Nat
  | [] => 0
  | t :: ts => t.length + 2 + lens ts
theorem textFrom_le : ∀ (ts : List Str) (k : Nat) (acc : Str), (textFrom k acc ts).length ≤ acc.length + lens ts
  | [], _, acc => by simp [textFrom, lens]
  | t :: ts, k, acc => by
    have h := textFrom_le ts (k + 1) (acc ++ (if k > 0 then ", " else "" : String) ++ t)
    have e : ((if k > 0 then ", " else "" : String) : Str).length ≤ 2 := by
      by_cases z : k > 0
      · rw [if_pos z]; decide
      · rw [if_neg z]; decide
    simp only [textFrom, lens, Str.length_append] at h ⊢
    omega
theorem join_le : ∀ ts : List Str, (Str.join ", " ts).length ≤ lens ts
  | [] => by simp only [Str.join, lens]; decide
  | [x] => by simp only [Str.join, lens]; omega
  | x :: y :: r => by
    have h := join_le (y :: r)
    have e : ((", " : String) : Str).length = 2 := by decide
    simp only [Str.join, lens, Str.length_append] at h ⊢
    omega
mutual
def cost : PyData → Nat
  | .none => 4
  | .bool _ => 5
  | .int i => i.natAbs.log2 + 3
  | .str x => (reprText x).length
  | .list xs => costAll xs + 4
  | .tuple xs => costAll xs + 4
  | .dict [] => 2
  | .dict (_ :: _) => 100000000
def costAll : List PyData → Nat
  | [] => 0
  | x :: xs => cost x + 2 + costAll xs
end
mutual
theorem shown_le : ∀ d : PyData, cost d < 100000000 → d.shown.length ≤ cost d
  | .none, _ => by simp only [PyData.shown, cost]; decide
  | .bool b, _ => by cases b <;> (simp only [PyData.shown, cost]; decide)
  | .int i, _ => by
    simp only [PyData.shown, cost]
    have h := int_text_length_le (a := i) (k := i.natAbs.log2 + 1) (by omega) (by omega)
    show (Str.ofString (toString i)).length ≤ _
    rw [PySem.ofString_length]
    omega
  | .str x, _ => by simp only [PyData.shown, cost]; omega
  | .list xs, h => by
    simp only [cost] at h
    have := shownAll_le xs (by omega)
    have z := textFrom_le (PyData.shownAll xs) 0 (Str.ofString "[")
    have e : (Str.ofString "[").length = 1 := by decide
    have e2 : (Str.ofString "]").length = 1 := by decide
    simp only [PyData.shown, cost, listText, Str.length_append] at z ⊢
    omega
  | .tuple xs, h => by
    simp only [cost] at h
    have := shownAll_le xs (by omega)
    have z := join_le (PyData.shownAll xs)
    have e : (Str.ofString "(").length = 1 := by decide
    have e2 : ((if (PyData.shownAll xs).length == 1 then ",)" else ")" : String) : Str).length ≤ 2 := by
      by_cases q : ((PyData.shownAll xs).length == 1) = true
      · rw [if_pos q]; decide
      · rw [if_neg q]; decide
    simp only [PyData.shown, cost, tupleText, Str.length_append] at z ⊢
    omega
  | .dict [], _ => by simp only [PyData.shown, PyData.shownKv, cost]; decide
  | .dict (_ :: _), h => by simp only [cost] at h; omega
theorem shownAll_le : ∀ ds : List PyData, costAll ds < 100000000 → lens (PyData.shownAll ds) ≤ costAll ds
  | [], _ => by simp [PyData.shownAll, lens, costAll]
  | d :: ds, h => by
    simp only [costAll] at h
    have h1 := shown_le d (by omega)
    have h2 := shownAll_le ds (by omega)
    simp only [PyData.shownAll, lens, costAll]
    omega
end
/-- data that is shown without harm: its text, its depth -/
structure Nc (c e : Nat) (d : PyData) : Prop where
  sh : d.showable = true
  dp : d.depth ≤ e
  co : cost d ≤ c
theorem Nc.mono {c c' e e' : Nat} {d : PyData} (h : Nc c e d) (h1 : c ≤ c') (h2 : e ≤ e') : Nc c' e' d := ⟨h.sh, Nat.le_trans h.dp h2, Nat.le_trans h.co h1⟩
theorem Nc.len {c e : Nat} {d : PyData} (h : Nc c e d) (hc : c ≤ 1000000) : d.shown.length ≤ c := Nat.le_trans (shown_le d (by have := h.co; omega)) h.co
theorem nc_none : Nc 4 0 .none := ⟨rfl, Nat.le_refl _, Nat.le_refl _⟩
theorem nc_bool (b : Bool) : Nc 5 0 (.bool b) := ⟨rfl, Nat.le_refl _, Nat.le_refl _⟩
theorem nc_int {n : Int} {b : Nat} (h : n.natAbs < 2 ^ b) (h0 : 0 < b) (h1 : b ≤ 1900) : Nc (b + 2) 0 (.int n) := by
  have := PySem.Flt.log2_lt_of h0 h
  refine ⟨?_, Nat.le_refl _, ?_⟩
  · simp only [PyData.showable, decide_eq_true_eq]; omega
  · simp only [cost]; omega
theorem nc_str {x : Str} {c : Nat} (h : (reprText x).length ≤ c) : Nc c 0 (.str x) := ⟨rfl, Nat.le_refl _, h⟩
/-- several -/
structure NcA (c e : Nat) (ds : List PyData) : Prop where
  sh : PyData.showableAll ds = true
  dp : PyData.depthAll ds ≤ e
  co : costAll ds ≤ c
theorem nca_nil {e : Nat} : NcA 0 e [] := ⟨rfl, Nat.zero_le _, Nat.le_refl _⟩
theorem nca_cons {c c' e : Nat} {d : PyData} {ds : List PyData} (h : Nc c e d) (hs : NcA c' e ds) : NcA (c + 2 + c') e (d :: ds) := by
  refine ⟨?_, ?_, ?_⟩
  · simp only [PyData.showableAll, h.sh, hs.sh, Bool.and_self]
  · simp only [PyData.depthAll]; exact Nat.max_le.mpr ⟨h.dp, hs.dp⟩
  · simp only [costAll]; have := h.co; have := hs.co; omega
theorem nc_tup {c e : Nat} {ds : List PyData} (h : NcA c e ds) : Nc (c + 4) (e + 1) (.tuple ds) := by
  refine ⟨?_, ?_, ?_⟩
  · simp only [PyData.showable, h.sh]
  · simp only [PyData.depth]; have := h.dp; omega
  · simp only [cost]; have := h.co; omega
theorem nc_lst {c e : Nat} {ds : List PyData} (h : NcA c e ds) : Nc (c + 4) (e + 1) (.list ds) := by
  refine ⟨?_, ?_, ?_⟩
  · simp only [PyData.showable, h.sh]
  · simp only [PyData.depth]; have := h.dp; omega
  · simp only [cost]; have := h.co; omega
theorem nc_emp : Nc 2 1 (.dict []) := ⟨rfl, Nat.le_refl _, Nat.le_refl _⟩
theorem nc_pair {n m : Int} {b : Nat} (hn : n.natAbs < 2 ^ b) (hm : m.natAbs < 2 ^ b) (h0 : 0 < b) (h1 : b ≤ 1900) : Nc (2 * b + 12) 1 (.tuple [.int n, .int m]) :=
  (nc_tup (nca_cons (nc_int hn h0 h1) (nca_cons (nc_int hm h0 h1) nca_nil))).mono (by omega) (by omega)
/-! ### which data is what -/
def tyName : PyData → String
  | .none => "NoneType"
  | .bool _ => "bool"
  | .int _ => "int"
  | .str _ => "str"
  | .list _ => "list"
  | .tuple _ => "tuple"
  | .dict _ => "dict"
def isTup : PyData → Bool
  | .tuple _ => true
  | _ => false
def isInt : PyData → Bool
  | .int _ => true
  | .bool _ => true
  | _ => false
def isBo : PyData → Bool
  | .bool _ => true
  | _ => false
def isWh : PyData → Bool
  | .int _ => true
  | _ => false
theorem wh_eq (d : PyData) : (isInt d && !isBo d) = isWh d := by cases d <;> rfl
theorem kit_tup (d : PyData) : kitB (tyName d) "tuple" = some (isTup d) := by cases d <;> (simp only [tyName, isTup]; decide +kernel)
theorem kit_int (d : PyData) : kitB (tyName d) "int" = some (isInt d) := by cases d <;> (simp only [tyName, isInt]; decide +kernel)
theorem kit_bool (d : PyData) : kitB (tyName d) "bool" = some (isBo d) := by cases d <;> (simp only [tyName, isBo]; decide +kernel)
section
variable {K : PySem.W.Frag} {p : Addr} {H H' : Hp} {v : V} {d : PyData}
theorem Dq.ty (h : Dq K p H v d) : TyX K H v (.type (tyName d)) := by
  cases h with
  | non => exact .base .non
  | bl b => exact .base (.bl b)
  | int i => exact .base (.int i)
  | str x => exact .base (.str x)
  | lst _ _ h _ => exact .base (.lst h)
  | tup h _ =>
    rcases h with (h | ⟨o, h⟩) | ⟨o, _, _, h, c, _⟩
    · exact .base (.tup h)
    · exact .fTuple h
    · exact .kTuple h c
  | emp h => exact .base (.dK h)
theorem DqAll.len : ∀ {vs : List V} {ds : List PyData}, DqAll K p H vs ds → vs.length = ds.length
  | _, _, .nil => rfl
  | _, _, .cons _ h => by rw [List.length_cons, List.length_cons, h.len]
theorem DqAll.mem : ∀ {vs : List V} {ds : List PyData}, DqAll K p H vs ds → ∀ x ∈ vs, ∃ d ∈ ds, Dq K p H x d
  | _, _, .nil, x, hx => nomatch hx
  | _, _, .cons (d := d) h hs, x, hx => by
    rcases List.mem_cons.mp hx with rfl | hx
    · exact ⟨d, List.mem_cons_self, h⟩
    · obtain ⟨e, he, q⟩ := hs.mem x hx
      exact ⟨e, List.mem_cons_of_mem _ he, q⟩
theorem DqAll.append : ∀ {vs ws : List V} {ds es : List PyData}, DqAll K p H vs ds → DqAll K p H ws es → DqAll K p H (vs ++ ws) (ds ++ es)
  | _, _, _, _, .nil, h => h
  | _, _, _, _, .cons a b, h => .cons a (b.append h)
/-- a fraction's data -/
def frd (q : Rat) : PyData := .tuple [.int q.num, .int (q.den : Int)]
theorem Fr.dq {b : Nat} {q : Rat} (h : Fr K b q v H) : Dq K p H v (frd q) := by
  obtain ⟨a, rfl, h, _⟩ := h
  exact .tup h (.cons (.int _) (.cons (.int _) .nil))
theorem Fr.nc {b : Nat} {q : Rat} (h : Fr K b q v H) (h0 : 0 < b) (h1 : b ≤ 1900) : Nc (2 * b + 12) 1 (frd q) := nc_pair h.bd.1 (bd_den h.bd) h0 h1
/-- whether it is a fraction's -/
def frB : PyData → Bool
  | .tuple [.int n, .int m] => decide (0 < m) && decide (Nat.gcd n.natAbs m.natAbs = 1)
  | _ => false
def frQ : PyData → Rat
  | .tuple [.int n, .int m] => Rat.divInt n m
  | _ => 0
theorem divInt_low {n m : Int} (hm : 0 < m) (hg : Nat.gcd n.natAbs m.natAbs = 1) : (Rat.divInt n m).num = n ∧ ((Rat.divInt n m).den : Int) = m := by
  obtain ⟨h1, h2⟩ := low_eq n m (by omega) 1 (by rw [if_neg (by omega)])
  rw [hg] at h1 h2
  constructor
  · rw [← h1]; simp
  · rw [← h2]; simp
theorem frB_frd (q : Rat) : frB (frd q) = true := by
  have := den_pos q
  have h := red q
  simp only [frd, frB, h, decide_true, Bool.and_true, decide_eq_true_eq]
  exact this
theorem frQ_frd (q : Rat) : frQ (frd q) = q := by
  simp only [frd, frQ]
  exact Rat.num_divInt_den q
theorem frB_iff (h : frB d = true) : d = frd (frQ d) := by
  unfold frB at h
  split at h
  · rename_i n m
    rw [Bool.and_eq_true] at h
    obtain ⟨h1, h2⟩ := divInt_low (of_decide_eq_true h.1) (of_decide_eq_true h.2)
    simp only [frd, frQ, h1, h2]
  · cases h
theorem Dq.fr {b : Nat} (h : Dq K p H v d) (hb : frB d = true) (bd : Bd b (frQ d)) : Fr K b (frQ d) v H := by
  have e := frB_iff hb
  generalize frQ d = q at e bd
  subst e
  cases h with
  | tup h hs =>
    cases hs with
    | cons h1 h2 =>
      cases h2 with
      | cons h3 h4 =>
        cases h4
        cases h1
        cases h3
        exact ⟨_, rfl, h, bd⟩
end
end Jf
set_option Elab.async false
set_option linter.all false
set_option maxRecDepth 100000
set_option maxHeartbeats 4000000
namespace Jf
open PySem PySem.Spec PyProof.Rows L2 Evl
/-! ### the end of a law whose def shows data -/
/-- the script, known to its object; else nothing -/
def track (a : Addr) (vs : List Value) (ns : List Int) : Hp := fun b => if b = a then some (.frz { cls := .type "list", data := .seq vs.toArray } (.lst (ns.map V.int))) else none
theorem track_at {a : Addr} {vs : List Value} {ns : List Int} : track a vs ns a = some (.frz { cls := .type "list", data := .seq vs.toArray } (.lst (ns.map V.int))) := if_pos rfl
theorem track_ne {a b : Addr} {vs : List Value} {ns : List Int} (h : b ≠ a) : track a vs ns b = none := if_neg h
/-- what the law's promise is asked at -/
structure Asked (K : PySem.W.Frag) (h : Heap) (a : Addr) (vs : List Value) (ns : List Int) (H : Hp) : Prop where
  known : SqL K H a (ns.map V.int)
  only : ∀ b u, H b = some u → b = a ∧ ∃ o xs, u = .frz o (.lst xs)
  free : ∀ b o, K.lookup b = some o → H b = none
theorem seq_not_dict {h : Heap} {a : Addr} {vs : Array Value} {m : Str → Option Value} (ha : h.get? a = some { cls := .type "list", data := .seq vs }) : ¬ h.Ns a m := by
  rintro ⟨o, es, ep, e, d, _⟩
  rw [ha] at e
  cases e
  cases d
section
variable {P : Program} {w : World} {K : PySem.W.Frag} {mg mb : Str → Option Value} {k : Nat} {fa a : Addr} {fd : FuncData} {x : Str} {sp : Sp} {s₁ : Shared} {vs : List Value} {ns : List Int}
theorem go_law {H : Hp} (S : Asked K s₁.heap a vs ns H) (hok : HOk P w H s₁.heap) (KX : K.In s₁.heap) (hns : s₁.heap.Ns mainGlobals mg) (hb : s₁.heap.Ns builtinsNs mb) (hbb : ∀ x : Str, x ≠ "__name__" → mb x = bootBuiltins x) (hlim : s₁.heap.NoLimit) (hg : s₁.gens = #[])
    (ha : s₁.heap.get? a = some { cls := .type "list", data := .seq vs.toArray }) (hr : Room k callerA)
    (F : ∀ base : Heap, K.In base → base.Ns mainGlobals mg → FnG P w K mg base k fa fd [x] sp) (hbind : ∀ (s : Shared) (u : Value), BindsTo s fd ⟨[u], []⟩ [(x, u)])
    (hsp : sp [.ref a] H (fun v _ => v = .bl true) E0) :
    codeAny (model P w) callerA (.call (.ref fa) ⟨[.ref a], []⟩) (fun r s' => r = .ok (.ret (.bool true)) ∧ PySem.OldK s₁.heap s'.heap ∧ s'.os = s₁.os ∧ AllBare s'.gens) s₁ := by
  have ns_of : ∀ {b : Addr} {m : Str → Option Value}, s₁.heap.Ns b m → (hidT s₁.heap H).Ns b m := by
    intro b m hn
    have hn' := hn
    obtain ⟨o, es, ep, e, r⟩ := hn
    refine ⟨o, es, ep, hidT_get e ?_, r⟩
    cases q : H b with
    | none => rfl
    | some u =>
      obtain ⟨rfl, _⟩ := S.only b u q
      exact absurd hn' (seq_not_dict ha)
  have hKb : K.In (hidT s₁.heap H) := fun b o e => hidT_get (KX b o e) (S.free b o e)
  obtain ⟨mc, l1, l2⟩ := hlim
  have e0 : Env0 P w K mg (hidT s₁.heap H) callerA [] s₁ H := by
    constructor
    · rfl
    · exact ⟨hKb, ns_of hns, ⟨mb, ns_of hb, hbb⟩, ⟨mc, ns_of l1, l2⟩⟩
    · exact fun b o e => of_hidT e
    · exact Nat.le_of_eq (hidT_size _ _)
    · trivial
    · intro b hb
      exact absurd (show b ∈ ([] : List Addr) from hb) (by simp)
    · exact hok
    · exact .of_eq hg
  apply codeAny_mono ((F _ hKb (ns_of hns)).go callerA [] s₁ H ⟨[.ref a], []⟩ [.ref a] [.ref a] _ rfl hr e0 (hbind s₁ (.ref a)) (.cons rfl .nil) hsp)
  intro r s' h
  match r, h with
  | .error _, h => exact False.elim h
  | .ok (.ret u), ⟨v, H', os, bare, un, hok', r', q⟩ =>
    subst q
    obtain rfl : u = Value.bool true := r'
    refine ⟨rfl, PySem.OldK.of_keep ?_, os, bare⟩
    intro b o e
    cases q : H b with
    | none => exact un.keep b o e q (by intro z; exact absurd (show b ∈ ([] : List Addr) from z) (by simp)) (by simp)
    | some u =>
      obtain ⟨rfl, ob, xs, rfl⟩ := S.only b u q
      have q2 := un.frzs b ob _ q
      have e1 := (hok b _ q).1
      have e2 := (hok' b _ q2).1
      rw [e] at e1
      cases e1
      exact e2
theorem law_callG (KX : K.In s₁.heap) (hns : s₁.heap.Ns mainGlobals mg) (hb : s₁.heap.Ns builtinsNs mb) (hbb : ∀ x : Str, x ≠ "__name__" → mb x = bootBuiltins x) (hlim : s₁.heap.NoLimit) (hg : s₁.gens = #[])
    (ha : s₁.heap.get? a = some { cls := .type "list", data := .seq vs.toArray }) (hi : IntsAre vs ns) (hl : ns.length ≤ sizeLine) (hr : Room k callerA)
    (F : ∀ base : Heap, K.In base → base.Ns mainGlobals mg → FnG P w K mg base k fa fd [x] sp) (hbind : ∀ (s : Shared) (u : Value), BindsTo s fd ⟨[u], []⟩ [(x, u)])
    (hsp : ∀ H : Hp, SqL K H a (ns.map V.int) → sp [.ref a] H (fun v _ => v = .bl true) E0) :
    codeAny (model P w) callerA (.call (.ref fa) ⟨[.ref a], []⟩) (fun r s' => r = .ok (.ret (.bool true)) ∧ PySem.OldK s₁.heap s'.heap ∧ s'.os = s₁.os ∧ AllBare s'.gens) s₁ := by
  have rv := vals_ints hi
  cases hk : K.lookup a with
  | some o =>
    have e := KX a o hk
    rw [ha] at e
    cases e
    have known : SqL K (fun _ => none) a (ns.map V.int) := .inr ⟨_, vs.toArray, _, hk, rfl, rfl, rfl, by rw [List.size_toArray, hi.length]; exact hl, by simpa using rv⟩
    exact go_law (H := fun _ => none) ⟨known, (fun _ _ z => nomatch z), (fun _ _ _ => rfl)⟩ (fun _ _ z => nomatch z) KX hns hb hbb hlim hg ha hr F hbind (hsp _ known)
  | none =>
    have known : SqL K (track a vs ns) a (ns.map V.int) := .inl (.inr ⟨_, track_at⟩)
    refine go_law (H := track a vs ns) ⟨known, fun b u z => ?_, fun b o z => track_ne ?_⟩ (fun b u z => ?_) KX hns hb hbb hlim hg ha hr F hbind (hsp _ known)
    · by_cases h : b = a
      · subst h
        rw [track_at] at z
        cases z
        exact ⟨rfl, _, _, rfl⟩
      · rw [track_ne h] at z
        cases z
    · rintro rfl
      rw [hk] at z
      cases z
    · by_cases h : b = a
      · subst h
        rw [track_at] at z
        cases z
        exact ⟨ha, by rw [List.length_map]; exact hl, vs, _, rv, ha⟩
      · rw [track_ne h] at z
        cases z
end
theorem walk_ofG {l : PySem.W.OpenLaw} {n k : Nat} {q : Program} {loose : List Str} {XP : (Str → Option Value) → Heap → Prop} {YP : World → Heap → Prop} {d : DefRec} {K : Params → PySem.W.Frag} {sp : World → Sp} {x : Str}
    (hn : l.most = some n) (hn2 : n ≤ sizeLine) (hdf : d.params.defaults = []) (hr : Room k callerA) (hY : ∀ (w : World) (h : Heap), YP w h → (K w.params).In h)
    (F : ∀ (w : World) (mg : Str → Option Value) (fa : Addr) (h : Heap), (K w.params).In h → h.Ns mainGlobals mg → mg d.name = some (.ref fa) →
      ∃ fd : FuncData, (∀ (s : Shared) (u : Value), BindsTo s fd ⟨[u], []⟩ [(x, u)]) ∧ ∀ base : Heap, (K w.params).In base → base.Ns mainGlobals mg → FnG l.prog w (K w.params) mg base k fa fd [x] (sp w))
    (hsp : ∀ (w : World) (H : Hp) (a : Addr) (ns : List Int), ns.length ≤ n → SqL (K w.params) H a (ns.map V.int) → sp w [.ref a] H (fun v _ => v = .bl true) E0) :
    PySem.W.WalkO q loose XP YP l.row.toRowW d [] (fun f vs => PySem.call f vs) := by
  apply Att.attach_call hn hdf
  intro w s₀ s₁ mg mb fa o pm cd doc a vs ns G Y _ _ _ hmg hobj hints hlen hg
  obtain ⟨fd, hb, hF⟩ := F w mg fa _ (hY w _ Y) G.T.g hmg
  exact law_callG (hY w _ Y) G.T.g G.T.b G.T.builtins G.T.nolimit hg hobj hints (Nat.le_trans hlen hn2) hr hF hb fun H hS => hsp w H a ns hlen hS
end Jf
set_option Elab.async false
set_option linter.all false
set_option maxRecDepth 100000
set_option maxHeartbeats 4000000
namespace PySem.W
open Lean Elab Tactic Meta PySem PySem.Calls PyProof.Rows Builtin Builtin.ObjectAttr Builtin.Getset_descriptor PyProof.V PySem.Spec
section
variable {prog : Program} {w : World} {A : Around} {E : Value → Shared → Prop} {s : Shared} {K : Frag} {x C : Addr} {ox : Obj} {od : Option Obj} {R : Result → Shared → Prop}
/-- e.__class__ for an instance of an exception class of the program, read in an expression -/
theorem jf_classX {gt : Option Value} {expr : Bool} {Q : Value → Shared → Prop} (X : K.In s.heap) (I : InstAt s.heap x ox C od) (hga : findIn K (.ref C) "__getattribute__" = some (some (.builtin "BaseException.__getattribute__"))) (hgt : findIn K (.ref C) "__getattr__" = some gt)
    (hsub : subIn K (.ref C) (.type "BaseException") = some true) (hf : findObj K C od "__class__" = some (.bind (.builtin "getset_descriptor.__get__") (.builtin "object.__class__"))) (hm : mroIn K C (.type "object") = some true)
    (h : Q (.ref C) { s with toks := s.toks + 1 }) : wpAny (model prog w) A (getAttr (.ref x) "__class__" expr) Q E s := by
  obtain ⟨hp, g, d, t, os⟩ := s
  have L0 := I.type (M := model prog w)
  have L1 := looks_findIn (M := model prog w) X hga
  have L2 := looks_findIn (M := model prog w) X hgt
  have L3 := looks_find (M := model prog w) X I hf
  have sub : Looks (model prog w) hp (isInstance (.ref x) (.type "BaseException")) true := L0.andThen (looks_subIn X hsub)
  have hx0 : (expr && onTheHeap (Value.builtin "BaseException.__getattribute__")) = false := by cases expr <;> rfl
  have hx2 : (Value.builtin "BaseException.__getattribute__" == Value.builtin "object.__getattribute__") = false := by decide +kernel
  have hx1 : (onTheHeap (Value.ref C) && Value.builtin "BaseException.__getattribute__" == Value.builtin "object.__getattribute__") = false := by rw [hx2]; rfl
  unfold getAttr getAttrBy
  refine wpAny_bind (wpAny_mkText (wpAny_holding (wpAny_bind (L0.at (wpAny_bind (L1.at ?_))))))
  show wpAny _ _ (if (onTheHeap (Value.ref C) && Value.builtin "BaseException.__getattribute__" == Value.builtin "object.__getattribute__") = true then _ else _) _ _ _
  rw [hx1, if_neg Bool.false_ne_true]
  unfold getAttrByItsOwn hookBefore
  refine wpAny_bind ?_
  rw [if_pos (show onTheHeap (Value.ref C) = true from rfl)]
  refine L2.at ?_
  refine wpAny_bind (wpAny_attempt (wpAny_holding ?_))
  unfold callGetattribute
  rw [hx0, if_neg Bool.false_ne_true]
  unfold boundAndCalled
  rw [PySem.F.excAttr_ValueError.ga.bind (.ref x)]
  refine wpAny_bind (wpAny_pure ?_)
  show wpAny _ _ (call (.builtin "BaseException.__getattribute__") [.ref x, .str "__class__" t]) _ _ _
  refine wpAny_call (codeAny_call_builtin PySem.F.excAttr_ValueError.ga.plain PySem.F.entry_bexc_ga ?_)
  refine @check_slot (model prog w) _ _ ⟨hp, g, d, t + 1, os⟩ "BaseException.__getattribute__" "BaseException" "__getattribute__" (.ref x) [.str "__class__" t] [] _ (by decide +kernel) (by decide +kernel) sub (PySem.F.args_bexc_ga (.ref x) (.str "__class__" t)) ?_
  unfold Builtin.«object.__getattribute__»
  refine wpAny_bind (wpAny_of_eq (a := ((Value.ref x : Value), [Value.str "__class__" t])) (by first | rfl | (simp only [slotArgs]; rfl)) ?_)
  refine wpAny_bind (wpAny_pure (wpAny_bind (L0.at (wpAny_bind (L3.at ?_)))))
  refine wpAny_bind (wpAny_holding (wpAny_call (class_get (s := ⟨hp, g, d, t + 1, os⟩) (ox := ox) (od := od) X I hm ?_)))
  refine wpAny_pure ?_
  show wpAny _ _ (handedOut (.ref C)) _ _ _
  rw [handedOut_of (show handedIn (.ref C) = true from rfl)]
  first | exact wpAny_pure h | exact wpAny_pure (wpAny_pure h)
theorem jf_dga (d tp : Value) (C : Addr) : descrGetArgs ⟨[d, .ref C, tp], []⟩ = pure (d, some (.ref C), given tp) := by rfl
/-- c.__name__, what its slot keeps -/
theorem jf_name_get {tp : Value} {o : Obj} {n : Str} {tk : Tok} (X : K.In s.heap) (ht : typeIn K (.ref C) = some (.type "type")) (hl : K.lookup C = some o) (hs : o.slots[2]? = some (some (.str n tk))) (h : R (.ok (.ret (.str n tk))) s) :
    codeAny (model prog w) A (.call (.builtin "getset_descriptor.__get__") ⟨[.builtin "type.__name__", .ref C, tp], []⟩) R s := by
  obtain ⟨hh, g, dr, t, os⟩ := s
  have L0 : Looks (model prog w) hh (typeOf (.ref C)) (.type "type") := looks_typeIn X ht
  have L1 : Looks (model prog w) hh (isSubtype (.type "type") (.type "type")) true := Looks.of_pure (by rw [isSubtype_type]; kernel_rfl)
  refine codeAny_call_builtin KF.slot_gs.plain KF.entry_gs (KF.slot_gs.check _ _ _ _ _ _ _ _ ktyn_type (KF.args_gs _ _ _) ?_)
  unfold Builtin.«getset_descriptor.__get__» descrGet
  rw [jf_dga]
  refine wpAny_bind (wpAny_pure ?_)
  unfold descrGetter descrCheckInstance descrNameAndClass isInstance
  simp only [ktyn_owner]
  repeat lk
  refine ⟨Code.quiet_builtin _ (by decide +kernel), codeAny_builtin ktyn_entry ?_⟩
  unfold Builtin.«type.__name__»
  dsimp only
  unfold Builtin.keptObject slotAt
  dsimp only
  refine wpAny_bind (wpAny_bind (wpAny_bind (wpAny_loadPart (X _ _ hl) ?_)))
  refine wpAny_pure (wpAny_pure ?_)
  rw [hs]
  exact wpAny_pure h
end
end PySem.W
namespace Jf
open PySem PySem.Spec PyProof.Rows L2 Evl
/-- what is asked of a class, so that its name is read -/
structure NmC (K : PySem.W.Frag) (C : Addr) (nm : Str) : Prop where
  ga : PySem.W.findIn K (.ref C) "__getattribute__" = some (some (.builtin "BaseException.__getattribute__"))
  gg : PySem.W.findIn K (.ref C) "__getattr__" = some none
  ex : PySem.W.subIn K (.ref C) (.type "BaseException") = some true
  cl : (PySem.W.clsIn K C).isSome = true
  kc : PySem.W.findIn K (.ref C) "__class__" = some (some (.builtin "object.__class__"))
  sp : PySem.W.specialIn K (.builtin "object.__class__") "__get__" = some (some (.builtin "getset_descriptor.__get__"))
  tk : PySem.W.takesIn K (.builtin "object.__class__") = some true
  mo : PySem.W.mroIn K C (.type "object") = some true
  rd : PySem.W.readsIn K C (.type "type") = true
  fd : PySem.W.findCls K (.ref C) (.type "type") "__name__" = some (.get (.builtin "getset_descriptor.__get__") (.builtin "type.__name__") (.ref C) (.type "type"))
  ty : PySem.W.typeIn K (.ref C) = some (.type "type")
  sl : ∃ o t, K.lookup C = some o ∧ o.slots[2]? = some (some (.str nm t))
/-- e.__class__.__name__ -/
def tNm (K : PySem.W.Frag) (te : TE) : TE := fun σ H Q => te σ H fun x H1 => ∃ (a C dx : Addr) (fs : List (Str × V)) (nm : Str), x = .ref a ∧ NmC K C nm ∧ H1 a = some (exo a C (some dx)) ∧ H1 dx = some (exd dx fs) ∧ Q (.str nm) H1
theorem pe_nm {X : Cx} {e : Expr} {te : TE} {p1 pos : Pos} (he : PE X e te) (hb1 : attributeBase e "__class__" X.env (eval e X.env) = eval e X.env := by rfl)
    (hb : attributeBase (.Attribute e "__class__" p1) "__name__" X.env (eval (.Attribute e "__class__" p1) X.env) = eval (.Attribute e "__class__" p1) X.env := by rfl) : PE X (.Attribute (.Attribute e "__class__" p1) "__name__" pos) (tNm X.K te) := by
  refine ⟨fun pins s σ H Q I h => ?_⟩
  refine attr_of hb (attr_of hb1 (thn (he.run pins s σ H _ I h) fun u s1 hh => ?_))
  obtain ⟨x, H1, I1, rx, a, C, dx, fs, nm, ex, T, ea, ed, q⟩ := hh
  subst ex
  obtain rfl : u = Value.ref a := rx
  obtain ⟨t1, ho⟩ := exo_at I1.hok ea
  obtain ⟨mA, hns, hr⟩ := exd_at I1.hok ed
  obtain ⟨od, hod, hl⟩ := lookIn_ns hns
  have J : PySem.W.InstAt s1.heap a { cls := .ref C, dict := some dx, data := .fields #[.ref t1, .none, .none, .none, .bool false, .none] } C (some od) := ⟨ho, rfl, rfl, hod⟩
  refine PySem.W.jf_classX I1.kIn J T.ga T.gg T.ex (PySem.W.findObj_dataE T.cl T.kc T.sp T.tk) T.mo ?_
  obtain ⟨o, t, e1, e2⟩ := T.sl
  have I2 := I1.tok (s1.toks + 1)
  have I3 := I1.tok (s1.toks + 1 + 1)
  refine PySem.W.cls_bind (s := { s1 with toks := s1.toks + 1 }) I2.kIn T.rd T.fd (wpAny_call (PySem.W.jf_name_get (s := { s1 with toks := s1.toks + 1 + 1 }) I3.kIn T.ty e1 e2 ?_))
  refine PySem.W.handed_on rfl ?_
  exact ⟨.str nm, H1, I3, ⟨t, rfl⟩, q⟩
end Jf
set_option Elab.async false
set_option linter.all false
set_option maxRecDepth 100000
set_option maxHeartbeats 4000000
namespace Jf
open PySem PySem.Spec PyProof.Rows L2 Evl
/-! ### error classes right under one class over ValueError, each with an `__init__` of its own that calls that one's -/
def clsOk (K : PySem.W.Frag) (C CM : Addr) (nm : Str) : Bool := match K.lookup C with
  | some ⟨.type "type", _, .cls cd, sl⟩ => (match sl.toList with
    | [_, _, _, _, some (.builtin n), _] => decide (n = "ValueError.__new__") && (decide (cd.name = nm) && (decide (cd.mro = [.ref C, .ref CM, .type "ValueError", .type "Exception", .type "BaseException", .type "object"]) && (decide (cd.hasDict = true) && decide (cd.hasDel = false))))
    | _ => false)
  | _ => false
/-- its name is read -/
def fdB (K : PySem.W.Frag) (C : Addr) : Bool := match PySem.W.findCls K (.ref C) (.type "type") "__name__" with
  | some (.get (.builtin g) (.builtin a) (.ref D) (.type t)) => decide (g = "getset_descriptor.__get__") && (decide (a = "type.__name__") && (decide (D = C) && decide (t = "type")))
  | _ => false
def slB (K : PySem.W.Frag) (C : Addr) (nm : Str) : Bool := match K.lookup C with
  | some o => (match o.slots[2]? with
    | some (some (Value.str n _)) => decide (n = nm)
    | _ => false)
  | none => false
def nmB (K : PySem.W.Frag) (C : Addr) (nm : Str) : Bool := PySem.W.readsIn K C (.type "type") && (fdB K C && (slB K C nm && decide (PySem.W.findIn K (.ref C) "kind" = some none)))
theorem fd_ok {K : PySem.W.Frag} {C : Addr} (h : fdB K C = true) : PySem.W.findCls K (.ref C) (.type "type") "__name__" = some (.get (.builtin "getset_descriptor.__get__") (.builtin "type.__name__") (.ref C) (.type "type")) := by
  unfold fdB at h
  split at h
  · rename_i g a D t e
    simp only [Bool.and_eq_true, decide_eq_true_eq] at h
    obtain ⟨rfl, rfl, rfl, rfl⟩ := h
    exact e
  · cases h
theorem sl_ok {K : PySem.W.Frag} {C : Addr} {nm : Str} (h : slB K C nm = true) : ∃ o t, K.lookup C = some o ∧ o.slots[2]? = some (some (.str nm t)) := by
  unfold slB at h
  split at h
  · rename_i o e
    split at h
    · rename_i n t e2
      simp only [decide_eq_true_eq] at h
      subst h
      exact ⟨o, t, e, e2⟩
    · cases h
  · cases h
/-- all that is asked of a class, as one truth -/
def errB (K : PySem.W.Frag) (C CM f : Addr) (nm : Str) : Bool :=
  nmB K C nm && (clsOk K C CM nm && (decide (PySem.W.findIn K (.ref C) "__setattr__" = some (some (.builtin "object.__setattr__"))) && (decide (PySem.W.subIn K (.ref C) (.type "BaseException") = some true) && (decide (PySem.W.typeIn K (.ref C) = some (.type "type")) &&
  (PySem.W.keepIn K (.ref C) && (decide (PySem.W.findIn K (.ref C) "__init__" = some (some (.ref f))) && (decide (PySem.W.typeIn K (.ref f) = some (.type "function")) && (decide (PySem.W.findIn K (.ref C) "value" = some none) &&
  (decide (PySem.W.findIn K (.ref C) "__getattribute__" = some (some (.builtin "BaseException.__getattribute__"))) && (decide (PySem.W.findIn K (.ref C) "__getattr__" = some none) && (PySem.W.hasDictIn K C &&
  (decide (PySem.W.findIn K (.ref C) "__class__" = some (some (.builtin "object.__class__"))) && (decide (PySem.W.specialIn K (.builtin "object.__class__") "__get__" = some (some (.builtin "getset_descriptor.__get__"))) && (decide (PySem.W.takesIn K (.builtin "object.__class__") = some true) &&
  (decide (PySem.W.mroIn K C (.type "object") = some true) && (decide (PySem.W.exmOne K (.ref C) (.ref CM) = some true) && !(C == CM)))))))))))))))))
structure ErrX (K : PySem.W.Frag) (C CM f : Addr) (nm : Str) : Prop where
  oex : OexC K C
  i : PySem.W.findIn K (.ref C) "__init__" = some (some (.ref f))
  t : PySem.W.typeIn K (.ref f) = some (.type "function")
  noV : PySem.W.findIn K (.ref C) "value" = some none
  ec : ErrC K C
  xf : XfC K C
  named : ∃ cd, PySem.W.clsIn K C = some cd ∧ cd.name = nm ∧ cd.mro = [.ref C, .ref CM, .type "ValueError", .type "Exception", .type "BaseException", .type "object"]
  exm : PySem.W.exmOne K (.ref C) (.ref CM) = some true
  ty : PySem.W.typeIn K (.ref C) = some (.type "type")
  neM : C ≠ CM
  nm : NmC K C nm
  noK : PySem.W.findIn K (.ref C) "kind" = some none
theorem cls_ok {K : PySem.W.Frag} {C CM : Addr} {nm : Str} (h : clsOk K C CM nm = true) : (∃ q N bs bm sn sub ab col dd k0 k1 k2 k3 k5, K.lookup C = some (excClassObj nm q C N bs bm true sn sub ab col dd k0 k1 k2 k3 k5 "ValueError.__new__") ∧ PySem.HandSPX.refsVE bm = true) ∧
    ∃ cd, PySem.W.clsIn K C = some cd ∧ cd.name = nm ∧ cd.mro = [.ref C, .ref CM, .type "ValueError", .type "Exception", .type "BaseException", .type "object"] := by
  unfold clsOk at h
  split at h
  · rename_i dd cd sl ho
    split at h
    · rename_i k0 k1 k2 k3 n k5 hs
      simp only [Bool.and_eq_true, decide_eq_true_eq] at h
      obtain ⟨rfl, h1, h2, h3, h4⟩ := h
      obtain ⟨nm', bs, mro, ns, qn, hd, sn, sub, ab, col, del⟩ := cd
      dsimp only at h1 h2 h3 h4
      subst h1 h2 h3 h4
      have hsl : sl = #[k0, k1, k2, k3, some (.builtin "ValueError.__new__"), k5] := by
        obtain ⟨l⟩ := sl
        simp only at hs
        rw [hs]
      subst hsl
      exact ⟨⟨qn, ns, bs, [.ref CM, .type "ValueError", .type "Exception", .type "BaseException", .type "object"], sn, sub, ab, col, dd, k0, k1, k2, k3, k5, ho, rfl⟩, _, by unfold PySem.W.clsIn; rw [ho], rfl, rfl⟩
    · cases h
  · cases h
theorem err_ok {K : PySem.W.Frag} {C CM f : Addr} {nm : Str} (h : errB K C CM f nm = true) : ErrX K C CM f nm := by
  unfold errB at h
  simp only [Bool.and_eq_true, decide_eq_true_eq, Bool.not_eq_true', beq_eq_false_iff_ne] at h
  obtain ⟨h0, h1, sa, ex, ty, kp, hi, ht, nv, ga, gg, hd, kc, sp, tk, mo, em, nM⟩ := h
  obtain ⟨⟨q, N, bs, bm, sn, sub, ab, col, dd, k0, k1, k2, k3, k5, hl, hr⟩, cd, hc, hn, hm⟩ := cls_ok h1
  unfold nmB at h0
  simp only [Bool.and_eq_true, decide_eq_true_eq] at h0
  refine ⟨⟨⟨nm, q, N, bs, bm, sn, sub, ab, col, dd, k0, k1, k2, k3, k5, hl, hr⟩, sa, ex, ty, kp⟩, hi, ht, nv, ⟨by rw [hc]; rfl, ga, gg, ex, hd, kc, sp, tk, mo⟩, ⟨ga, gg, ex, hd⟩, ⟨cd, hc, hn, hm⟩, em, ty, nM, ?_, ?_⟩
  · exact ⟨ga, gg, ex, by rw [hc]; rfl, kc, sp, tk, mo, h0.1, fd_ok h0.2.1, ty, sl_ok h0.2.2.1⟩
  · exact h0.2.2.2
section
variable {K : PySem.W.Frag} {C D CM f g : Addr} {nm nk : Str}
theorem kit_one (C : Addr) : PySem.W.kitOne K (.ref C) (.ref C) = some true := by
  unfold PySem.W.kitOne
  rw [if_pos (by simp)]
theorem ErrX.ne (a : ErrX K C CM f nm) (b : ErrX K D CM g nk) (h : nm ≠ nk) : C ≠ D := by
  rintro rfl
  obtain ⟨cd, h1, h2, _⟩ := a.named
  obtain ⟨ce, h3, h4, _⟩ := b.named
  rw [h1] at h3
  cases h3
  exact h (h2.symm.trans h4)
/-- isinstance by another of them -/
theorem ErrX.other (a : ErrX K C CM f nm) (b : ErrX K D CM g nk) (h : nm ≠ nk) : PySem.W.kitOne K (.ref C) (.ref D) = some false := by
  have n := a.ne b h
  obtain ⟨cd, h1, h2, h3⟩ := a.named
  obtain ⟨ce, h4, _, _⟩ := b.named
  unfold PySem.W.kitOne PySem.W.kitCls
  rw [if_neg (by simpa using n)]
  dsimp only
  rw [if_pos (by rw [h4, b.ty]; rfl)]
  show PySem.W.mroIn K C (.ref D) = some false
  unfold PySem.W.mroIn
  rw [h1, Option.bind_some, h3]
  simp [n.symm, b.neM]
theorem ErrX.off (a : ErrX K C CM f nm) (b : ErrX K D CM g nk) (n : C ≠ D) : PySem.W.kitOne K (.ref C) (.ref D) = some false := by
  obtain ⟨cd, h1, h2, h3⟩ := a.named
  obtain ⟨ce, h4, _, _⟩ := b.named
  unfold PySem.W.kitOne PySem.W.kitCls
  rw [if_neg (by simpa using n)]
  dsimp only
  rw [if_pos (by rw [h4, b.ty]; rfl)]
  show PySem.W.mroIn K C (.ref D) = some false
  unfold PySem.W.mroIn
  rw [h1, Option.bind_some, h3]
  simp [n.symm, b.neM]
theorem ErrX.self1 (a : ErrX K C CM f nm) : PySem.W.exmOne K (.ref C) (.ref C) = some true := by
  obtain ⟨cd, h1, h2, h3⟩ := a.named
  refine PySem.W.exm_ref a.ec.ex a.ec.hd a.ty ?_
  show PySem.W.mroIn K C (.ref C) = some true
  unfold PySem.W.mroIn
  rw [h1, Option.bind_some, h3]
  simp
theorem ErrX.base (a : ErrX K C CM f nm) : PySem.W.kitOne K (.ref C) (.ref CM) = some true := by
  have e := a.exm
  unfold PySem.W.exmOne at e
  split at e
  · unfold PySem.W.kitOne
    split
    · rfl
    · exact e
  · cases e
theorem ErrX.ve (a : ErrX K C CM f nm) : PySem.W.kitOne K (.ref C) (.type "ValueError") = some true := by
  obtain ⟨cd, h1, h2, h3⟩ := a.named
  unfold PySem.W.kitOne PySem.W.kitCls
  rw [if_neg (by simp)]
  dsimp only
  rw [if_pos (by decide +kernel)]
  show PySem.W.mroIn K C (.type "ValueError") = some true
  unfold PySem.W.mroIn
  rw [h1, Option.bind_some, h3]
  simp
theorem ErrX.self (a : ErrX K C CM f nm) (b : ErrX K D CM g nk) (h : nm = nk) (e : C = D) : PySem.W.kitOne K (.ref C) (.ref D) = some true := e ▸ kit_one C
end
/-- what such an error keeps -/
def kd (k : Str) (v : V) : List (Str × V) := [(("kind" : Str), .str k), (("value" : Str), v)]
/-- the object made of a class, its value kept -/
def ErrAt (K : PySem.W.Frag) (C : Addr) (v : V) (x : V) (H : Hp) : Prop := ∃ a dx k, x = .ref a ∧ H a = some (exo a C (some dx)) ∧ H dx = some (exd dx (kd k v))

/-! ### making one, as a value -/
def spInit (C : Addr) : Sp := fun vs H Q _ => ∃ (a : Addr) (v : V), vs = [.ref a, v] ∧ H a = some (exo a C none) ∧
  ∀ dx k H', H dx = none → dx ≠ a → H' a = some (exo a C (some dx)) → H' dx = some (exd dx (kd k v)) → (∀ b o, b ≠ a → H b = some o → H' b = some o) → Q .non H'
/-- .. of any of those classes -/
def spInitM (K : PySem.W.Frag) : Sp := fun vs H Q _ => ∃ (C a : Addr) (v : V) (nm : Str), vs = [.ref a, v] ∧ OexC K C ∧ PySem.W.findIn K (.ref C) "value" = some none ∧ PySem.W.findIn K (.ref C) "kind" = some none ∧ NmC K C nm ∧ H a = some (exo a C none) ∧
  ∀ dx k H', H dx = none → dx ≠ a → H' a = some (exo a C (some dx)) → H' dx = some (exd dx (kd k v)) → (∀ b o, b ≠ a → H b = some o → H' b = some o) → Q .non H'
def tMkV (C : Addr) (sp : Sp) (ta : TA) : TE := fun σ H Q => ta σ H fun vs H1 => vs.length ≤ 1000 ∧ ∀ a, H1 a = none → sp (.ref a :: vs) (upd H1 a (exo a C none)) (fun v H2 => v = .non ∧ Q (.ref a) H2) (fun _ _ _ => False)
section
variable {X : Cx} {e : Expr} {es : List Expr} {ta : TA} {x m : Str} {p p1 p2 pos : Pos} {k : Nat} {fd : FuncData} {ps : List Str} {sp : Sp}
/-- C(e, ..) -/
theorem pe_mkv {CX : CXT} {C fI : Addr} (T : OexC X.K C) (iC : PySem.W.findIn X.K (.ref C) "__init__" = some (some (.ref fI))) (tI : PySem.W.typeIn X.K (.ref fI) = some (.type "function"))
    (F1 : FnOk X.prog X.w X.K X.mg X.base CX k fI fd ps sp) (hr : Room (k + 1) X.A) (hb : Binds X.K fd ps []) (hx : Passes CX X (fun _ _ _ => False)) (hg : Gl X x) (hm : X.mg x = some (.ref C)) (ha : PA X (e :: es) ta)
    (hdb : (x == ("__debug__" : Str)) = false := by decide) (he : starEach (e :: es) X.env = (false, eval e X.env) :: starEach es X.env := by rfl) (hpl : (backTo pos (starEach es X.env)).any (·.1) = false := by rfl) :
    PE X (.Call (.Name x p) (e :: es) [] pos) (tMkV C sp ta) := by
  refine ⟨fun pins s σ H Q I h => ?_⟩
  obtain ⟨nm, q, N, bs, bm, sn, sub, ab, col, dd, k0, k1, k2, k3, k5, hC, hbm⟩ := T.cls
  refine wpAny_Call_Name_kw (ld_glob I hg hm ?_ hdb)
  refine PySem.W.callWith_K (h₀ := X.base) I.ok.mod.kin T.kC (thn (ha.run pos pins s σ H _ I h) fun us s1 ⟨vs, H1, I1, r1, hz, q1⟩ => ⟨I1.kIn, ?_⟩) he hpl
  show wpAny _ _ (call (.ref C) us) _ _ _
  obtain ⟨hp, g, dr, tk, os⟩ := s1
  have hsz : hp.objs.size ≤ hp.objs.size + 1 := Nat.le_succ _
  have hn : H1 (hp.objs.size + 1) = none := I1.hok.fresh hsz
  have hq := q1 (hp.objs.size + 1) hn
  have kk : ∀ b o, hp.get? b = some o → ((hp.push (PySem.W.kdv_tup us)).push (PySem.HandSPX.excO C hp.objs.size)).get? b = some o := fun b o e => Heap.get?_push_of_some _ (Heap.get?_push_of_some _ e)
  have hget : ((hp.push (PySem.W.kdv_tup us)).push (PySem.HandSPX.excO C hp.objs.size)).get? (hp.objs.size + 1) = some (PySem.HandSPX.excO C hp.objs.size) := by heap_get
  have I2 : Inv X pins σ (upd H1 (hp.objs.size + 1) (exo (hp.objs.size + 1) C none)) ⟨(hp.push (PySem.W.kdv_tup us)).push (PySem.HandSPX.excO C hp.objs.size), g, dr, tk, os⟩ :=
    I1.laid (t' := tk) (a := hp.objs.size + 1) (o := exo (hp.objs.size + 1) C none) (h' := (hp.push (PySem.W.kdv_tup us)).push (PySem.HandSPX.excO C hp.objs.size)) kk hsz (exo_ok hget)
  have r2 : Vals (V.ref (hp.objs.size + 1) :: vs) (Value.ref (hp.objs.size + 1) :: us) := .cons rfl r1
  have hl : (Value.ref (hp.objs.size + 1) :: us ++ []).length = ps.length := by
    have e := r2.length
    rw [F1.len _ _ _ _ hq] at e
    rw [List.append_nil]
    exact e.symm
  have hus : us.length ≤ sizeLine := by
    rw [← Paired.length r1, sizeLine_eq]
    omega
  have hb2 := hb _ (Value.ref (hp.objs.size + 1) :: us) I2.kIn hl
  rw [List.append_nil] at hb2
  refine wpAny_call (PySem.HandSPX.call_own F.excBase_ValueError (fun Y => PySem.HandSPX.refsVE_contains Y bm hbm) (I1.kIn _ _ hC) (PySem.W.looks_findIn I1.kIn iC) (fun self => PySem.W.bind_fn I1.kIn self tI) hus
    (codeAny_mono (F1.run _ X.stack _ _ ⟨Value.ref (hp.objs.size + 1) :: us, []⟩ (Value.ref (hp.objs.size + 1) :: us) _ _ (fun _ _ _ => False) (hr.make C us []) (I2.env0.make C us []) hb2 r2 hq) fun r s' hq' => ?_))
  cases r with
  | error er => exact hx pins σ _ _ er s' I2 hq'
  | ok fl =>
    cases fl with
    | ret u =>
      obtain ⟨v, H2, os2, bare2, un2, hok2, rv, ev, q2⟩ := hq'
      subst ev
      obtain ⟨h2, g2, d2, t2, os'⟩ := s'
      exact ⟨rv, .ref (hp.objs.size + 1), H2, I2.call' (ch := []) os2 un2 hok2 bare2 (fun b z => absurd z (by simp)), rfl, q2⟩
    | next => exact False.elim hq'
    | brk => exact False.elim hq'
    | cont => exact False.elim hq'
/-- C.m(e, ..), m a def of the class C itself -/
theorem pe_clsdef {CX : CXT} {C f : Addr} {mc : Value} {E : XK} {pl : Sem Bool} (hg : Gl X x) (hm : X.mg x = some (.ref C)) (rd : PySem.W.readsIn X.K C mc = true) (ga : PySem.W.specialIn X.K (.ref C) "__getattribute__" = some (some (.builtin "type.__getattribute__")))
    (fi : PySem.W.findCls X.K (.ref C) mc m = some (.val (.ref f))) (hk : PySem.W.keepIn X.K (.ref f) = true) (F1 : FnOk X.prog X.w X.K X.mg X.base CX k f fd ps sp) (hr : Room k X.A) (hb : Binds X.K fd ps []) (hx : Passes CX X E) (ha : PA X (e :: es) ta)
    (hdb : (x == ("__debug__" : Str)) = false := by decide)
    (hc : eval (.Call (.Attribute (.Name x p1) m p2) (e :: es) [] pos) X.env = (do
      let ov ← eval (.Name x p1) X.env
      standAt p2.atName
      let (f, first) ← holding [ov] (getMethod ov m pl)
      callWith pos f first (backTo pos (starEach (e :: es) X.env)) (backToKw pos (keywordEach [] X.env))) := by rfl)
    (he : starEach (e :: es) X.env = (false, eval e X.env) :: starEach es X.env := by rfl) (hpl : (backTo pos (starEach es X.env)).any (·.1) = false := by rfl) :
    PE X (.Call (.Attribute (.Name x p1) m p2) (e :: es) [] pos) (tCall sp [] E ta) := by
  refine ⟨fun pins s σ H Q I h => ?_⟩
  refine PySem.W.methodCall_KW (ld_glob I hg hm ?_ hdb) hc
  refine PySem.W.method_cls I.kIn ga (PySem.W.cls_value I.kIn rd fi rfl ?_)
  show wpAny _ _ (callWith pos (Value.ref f) [] (backTo pos (starEach (e :: es) X.env)) []) _ _ _
  refine PySem.W.callWith_K (h₀ := X.base) I.ok.mod.kin hk (thn (ha.run pos pins _ σ H _ (I.tok _) h) fun us s1 ⟨vs, H1, I1, r, q⟩ => ⟨I1.kIn, ?_⟩) he hpl
  exact run_fn F1 hr hb .nil hx I1 r q
end
/-! ### what is asked of such an object -/
/-- isinstance(e, c) -/
def rIsX (K : PySem.W.Frag) : List V → Hp → VK → Prop := fun xs H Q => ∃ (a C dd : Addr) (fs : List (Str × V)) (c : V) (cv : Value) (b : Bool), xs = [.ref a, c] ∧ (∀ u, RelV c u → u = cv) ∧ ErrC K C ∧ H a = some (exo a C (some dd)) ∧ H dd = some (exd dd fs) ∧ PySem.W.kitOne K (.ref C) cv = some b ∧ Q (.bl b) H
theorem call_isX {X : Cx} : CallR X (.builtin "isinstance") (rIsX X.K) := by
  intro pins s σ H xs us Q I r h
  obtain ⟨a, C, dd, fs, c, cv, b, rfl, hcv, T, ea, ed, hk, q⟩ := h
  cases r with
  | cons rx rr =>
    cases rr with
    | cons rt rr =>
      cases rr
      cases rx
      have ec := hcv _ rt
      subst ec
      obtain ⟨t1, ho⟩ := exo_at I.hok ea
      obtain ⟨mA, hns, rel⟩ := exd_at I.hok ed
      obtain ⟨od, hod, _⟩ := lookIn_ns hns
      have J : PySem.W.InstAt s.heap a { cls := .ref C, dict := some dd, data := .fields #[.ref t1, .none, .none, .none, .bool false, .none] } C (some od) := ⟨ho, rfl, rfl, hod⟩
      refine PySem.W.kia_one (PySem.W.kitx_exc T.cl T.ga T.gg T.ex T.kc T.sp T.tk T.mo) I.kIn J hk (fun z => nomatch z) ?_
      intro tk
      exact ⟨.bl b, H, I.kept (t' := tk) fun _ _ z => z, rfl, q⟩
/-- e.f -/
def tXo (K : PySem.W.Frag) (f : Str) (te : TE) : TE := fun σ H Q => te σ H fun x H1 => ∃ (a C dd : Addr) (fs : List (Str × V)) (v : V), x = .ref a ∧ XfC K C ∧ PySem.W.findIn K (.ref C) f = some none ∧ H1 a = some (exo a C (some dd)) ∧ H1 dd = some (exd dd fs) ∧ fs.lookup f = some v ∧ Q v H1
theorem pe_xo {X : Cx} {e : Expr} {te : TE} {pos : Pos} {n : Str} (he : PE X e te) (hb : attributeBase e n X.env (eval e X.env) = eval e X.env := by rfl) : PE X (.Attribute e n pos) (tXo X.K n te) := by
  refine ⟨fun pins s σ H Q I h => ?_⟩
  refine attr_of hb (thn (he.run pins s σ H _ I h) fun u s1 hh => ?_)
  obtain ⟨x, H1, I1, rx, a, C, dd, fs, v, ex, T, hno, ea, ed, l, q⟩ := hh
  subst ex
  obtain rfl : u = Value.ref a := rx
  obtain ⟨t1, ho⟩ := exo_at I1.hok ea
  obtain ⟨mA, hns, hr⟩ := exd_at I1.hok ed
  obtain ⟨od, hod, hl⟩ := lookIn_ns hns
  obtain ⟨u, hu, ru⟩ := RelO.some_of (v := v) (o := mA n) (by rw [← l]; exact hr n)
  have J : PySem.W.InstAt s1.heap a { cls := .ref C, dict := some dd, data := .fields #[.ref t1, .none, .none, .none, .bool false, .none] } C (some od) := ⟨ho, rfl, rfl, hod⟩
  exact HandSPX.exc_get I1.kIn J T.ga T.gg T.exC (PySem.W.findObj_own T.hdC hno rfl (by rw [hl, hu])) (handed_of ru) ⟨v, H1, I1.tok _, ru, q⟩
/-! ### the class of all of them -/
def baseB (K : PySem.W.Frag) (C f : Addr) : Bool := PySem.W.readsIn K C (.type "type") && (decide (PySem.W.specialIn K (.ref C) "__getattribute__" = some (some (.builtin "type.__getattribute__"))) && PySem.W.keepIn K (.ref f))
/-- how the class of all of them stands -/
structure BaseK (K : PySem.W.Frag) (mg : Str → Option Value) (nm q : Str) (st : Stmt) where
  C : Addr
  f : Addr
  fd : FuncData
  g : mg nm = some (.ref C)
  F : Fun K "__init__" q st f fd
  b : Binds K fd ["self", "value"] []
  rd : PySem.W.readsIn K C (.type "type") = true
  ga : PySem.W.specialIn K (.ref C) "__getattribute__" = some (some (.builtin "type.__getattribute__"))
  fi : PySem.W.findCls K (.ref C) (.type "type") "__init__" = some (.val (.ref f))
  kp : PySem.W.keepIn K (.ref f) = true
/-- how one of them stands -/
structure ErrK (K : PySem.W.Frag) (mg : Str → Option Value) (nm q : Str) (CM : Addr) (st : Stmt) where
  C : Addr
  f : Addr
  fd : FuncData
  g : mg nm = some (.ref C)
  F : Fun K "__init__" q st f fd
  b : Binds K fd ["self", "value"] []
  x : ErrX K C CM f nm
theorem base_ok {K : PySem.W.Frag} {C f : Addr} (h : baseB K C f = true) : PySem.W.readsIn K C (.type "type") = true ∧ PySem.W.specialIn K (.ref C) "__getattribute__" = some (some (.builtin "type.__getattribute__")) ∧ PySem.W.keepIn K (.ref f) = true := by
  unfold baseB at h
  simp only [Bool.and_eq_true, decide_eq_true_eq] at h
  exact h
/-! ### list.count of truths -/
def eqb (k : Bool) (v : Value) : Bool := match v with
  | .bool n => n == k
  | _ => false
def rCntB (K : PySem.W.Frag) : V → List V → Hp → VK → Prop := fun x xs H Q => ∃ (p : Addr) (ns : List Bool) (k : Bool), x = .ref p ∧ xs = [.bl k] ∧ SqL K H p (ns.map V.bl) ∧ Q (.int (ns.count k : Nat)) H
theorem vals_bl : ∀ {ns : List Bool} {us : List Value}, Vals (ns.map V.bl) us → us = ns.map Value.bool
  | [], us, r => by cases r; rfl
  | n :: ns, us, r => by
    cases r with
    | cons h r2 =>
      have e := vals_bl r2
      rw [e]
      cases (show _ = Value.bool n from h)
      rfl
theorem eqb_count (k : Bool) : ∀ ns : List Bool, (ns.map Value.bool).countP (eqb k) = ns.count k
  | [] => rfl
  | n :: ns => by
    rw [List.map_cons, List.countP_cons, List.count_cons, eqb_count k ns]
    rfl
theorem mt_bcount {X : Cx} : MtR X "list.count" (rCntB X.K) := by
  intro pins s σ H x xs v us Q I rx rxs h
  obtain ⟨p, ns, k, rfl, rfl, hs, q⟩ := h
  cases rx
  obtain ⟨u, rfl, ru⟩ := rxs.one
  obtain rfl : u = Value.bool k := ru
  obtain ⟨its, rv, ⟨⟨cls, dd, data, sl⟩, n, ho, hc, hdn, hd⟩, hlen⟩ := I.list hs
  simp only at hc hd
  subst hc hd
  have hi := vals_bl rv
  subst hi
  refine call_meets PySem.F.slot_list_count ⟨_, ho, rfl⟩ PySem.F.entry_list_count (PySem.F.args_list_count_2 _ _)
    (SeqAt.list_countAt p (ns.map Value.bool).toArray n dd sl (.bool k) (eqb k)) ⟨ho, fun y hy => ?_, ?_⟩
  · have hy' : y ∈ ns.map Value.bool := by simpa using hy
    obtain ⟨b, _, rfl⟩ := List.mem_map.mp hy'
    exact SeqAt.EqAt.bool_bool b k
  have ec : (ns.map Value.bool).toArray.toList.countP (eqb k) = ns.count k := eqb_count k ns
  refine ⟨.int (ns.count k : Nat), H, I.tok _, ⟨s.toks, ?_⟩, q⟩
  show Value.int (((ns.map Value.bool).toArray.toList.countP (eqb k) : Nat) : Int) s.toks = Value.int ((ns.count k : Nat) : Int) s.toks
  rw [ec]
end Jf
set_option Elab.async false
set_option linter.all false
set_option maxRecDepth 100000
set_option maxHeartbeats 4000000
namespace Jf
open PySem PySem.Spec PyProof.Rows L2 Evl
/-- list(xs): a new list, not at sys.modules -/
def rListN (K : PySem.W.Frag) : List V → Hp → VK → Prop := fun xs H Q => ∃ (p : Addr) (ys : List V), xs = [.ref p] ∧ (SqL K H p ys ∨ SqT K H p ys) ∧ ∀ l, H l = none → l ≠ sysModules → Q (.ref l) (upd H l (.lst ys))
theorem call_listN {X : Cx} : CallR X (.type "list") (rListN X.K) := by
  rintro pins s σ H xs us Q I r ⟨p, ys, rfl, from_, k⟩
  obtain ⟨u, rfl, ru⟩ := vals1 r
  cases ru
  have done : ∀ its : List Value, Vals ys its → ys.length ≤ sizeLine → ∀ (h' : Heap) (n : Nat), (∀ b o, s.heap.get? b = some o → h'.get? b = some o) → h'.get? s.heap.objs.size = some { cls := .type "list", dict := none, data := .seq its.toArray n, slots := #[] } →
      EP X pins σ Q (.ref s.heap.objs.size) { s with heap := h' } := by
    intro its vals len h' n kp e
    have hf : H s.heap.objs.size = none := I.hok.fresh (Nat.le_refl _)
    refine ⟨.ref _, upd H _ (.lst ys), I.laid (t' := s.toks) kp (Nat.le_refl _) ?_, rfl, k _ hf (Nat.ne_of_gt I.big)⟩
    exact ⟨len, its, n, vals, e⟩
  rcases from_ with h | h
  · obtain ⟨its, vals, pl, len⟩ := I.list h
    have e := vals.length
    obtain ⟨o, e1, e2, n, e3⟩ := pl.isList
    exact call_list_seq p (.inl rfl) e1 e2 e3 (done its vals len) (by simp only [List.size_toArray]; omega)
  · obtain ⟨its, vals, pl, len⟩ := I.tuple h
    have e := vals.length
    obtain ⟨o, e1, e2, n, e3⟩ := pl
    exact call_list_seq p (.inr rfl) e1 e2 e3 (done its vals len) (by simp only [List.size_toArray]; omega)
end Jf
set_option Elab.async false
set_option linter.all false
set_option maxRecDepth 100000
set_option maxHeartbeats 4000000
namespace Jf
open PySem PySem.Spec PyProof.Rows L2 Evl
/-! ### the text -/
def topS (i : Nat) : Stmt := PySem.Challenge.pw_onenumber_k00_errors_by_hand.main.body.getD i (.Pass ⟨0, 0, 0, 0⟩)
abbrev s__law_spread : Stmt := topS 47
abbrev n__law_spread : List Str := ["_law_cell", "_law_at", "_law_primes", "_law_mixed", "_law_one_here", "_law_rest", "_law_two", "_law_three"]
abbrev s__law_open : Stmt := topS 48
abbrev n__law_open : List Str := ["_law_script", "_law_cells", "_law_k", "_law_cell"]
abbrev s__law_take : Stmt := topS 49
abbrev n__law_take : List Str := ["_law_pen", "_law_many", "_law_at", "_law_cell", "_law_found"]
abbrev s__law_one : Stmt := topS 50
abbrev n__law_one : List Str := ["_law_pen", "_law_some"]
abbrev s__law_made : Stmt := topS 51
abbrev n__law_made : List Str := ["_law_value", "_law_found"]
abbrev s__law_kinds : Stmt := topS 52
abbrev n__law_kinds : List Str := ["_law_one_here", "_law_found"]
abbrev s_law : Stmt := topS 53
abbrev n_law : List Str := ["_law_script", "_law_pen", "_law_some", "_law_value", "_law_shown", "_law_number", "_law_one_here", "_law_kinds_here", "_law_kept", "_law_made_here"]
abbrev s_i_MixError : Stmt := inClass (topS 1) 0
theorem sc_i_MixError : FnScope ["self", "value"] ["self", "value"] (defScope s_i_MixError) := ⟨rfl, rfl, rfl, by decide +kernel, rfl, by decide +kernel, by decide +kernel⟩
abbrev s_i_BadFraction : Stmt := inClass (topS 2) 0
theorem sc_i_BadFraction : FnScope ["self", "value"] ["self", "value"] (defScope s_i_BadFraction) := ⟨rfl, rfl, rfl, by decide +kernel, rfl, by decide +kernel, by decide +kernel⟩
abbrev s_i_BadPair : Stmt := inClass (topS 3) 0
theorem sc_i_BadPair : FnScope ["self", "value"] ["self", "value"] (defScope s_i_BadPair) := ⟨rfl, rfl, rfl, by decide +kernel, rfl, by decide +kernel, by decide +kernel⟩
abbrev s_i_BadPairs : Stmt := inClass (topS 4) 0
theorem sc_i_BadPairs : FnScope ["self", "value"] ["self", "value"] (defScope s_i_BadPairs) := ⟨rfl, rfl, rfl, by decide +kernel, rfl, by decide +kernel, by decide +kernel⟩
abbrev s_i_BadTerm : Stmt := inClass (topS 5) 0
theorem sc_i_BadTerm : FnScope ["self", "value"] ["self", "value"] (defScope s_i_BadTerm) := ⟨rfl, rfl, rfl, by decide +kernel, rfl, by decide +kernel, by decide +kernel⟩
abbrev s_i_BadMix : Stmt := inClass (topS 6) 0
theorem sc_i_BadMix : FnScope ["self", "value"] ["self", "value"] (defScope s_i_BadMix) := ⟨rfl, rfl, rfl, by decide +kernel, rfl, by decide +kernel, by decide +kernel⟩
abbrev s_i_BadPlace : Stmt := inClass (topS 7) 0
theorem sc_i_BadPlace : FnScope ["self", "value"] ["self", "value"] (defScope s_i_BadPlace) := ⟨rfl, rfl, rfl, by decide +kernel, rfl, by decide +kernel, by decide +kernel⟩
abbrev s_i_BadText : Stmt := inClass (topS 8) 0
theorem sc_i_BadText : FnScope ["self", "value"] ["self", "value"] (defScope s_i_BadText) := ⟨rfl, rfl, rfl, by decide +kernel, rfl, by decide +kernel, by decide +kernel⟩
abbrev s_i_BadLadder : Stmt := inClass (topS 9) 0
theorem sc_i_BadLadder : FnScope ["self", "value"] ["self", "value"] (defScope s_i_BadLadder) := ⟨rfl, rfl, rfl, by decide +kernel, rfl, by decide +kernel, by decide +kernel⟩
abbrev s_i_BadLadders : Stmt := inClass (topS 10) 0
theorem sc_i_BadLadders : FnScope ["self", "value"] ["self", "value"] (defScope s_i_BadLadders) := ⟨rfl, rfl, rfl, by decide +kernel, rfl, by decide +kernel, by decide +kernel⟩
abbrev s_i_NoFrame : Stmt := inClass (topS 11) 0
theorem sc_i_NoFrame : FnScope ["self", "value"] ["self", "value"] (defScope s_i_NoFrame) := ⟨rfl, rfl, rfl, by decide +kernel, rfl, by decide +kernel, by decide +kernel⟩
abbrev s_i_BadHabit : Stmt := inClass (topS 12) 0
theorem sc_i_BadHabit : FnScope ["self", "value"] ["self", "value"] (defScope s_i_BadHabit) := ⟨rfl, rfl, rfl, by decide +kernel, rfl, by decide +kernel, by decide +kernel⟩
abbrev s_i_BadChoice : Stmt := inClass (topS 13) 0
theorem sc_i_BadChoice : FnScope ["self", "value"] ["self", "value"] (defScope s_i_BadChoice) := ⟨rfl, rfl, rfl, by decide +kernel, rfl, by decide +kernel, by decide +kernel⟩
abbrev s_i_BadCourse : Stmt := inClass (topS 14) 0
theorem sc_i_BadCourse : FnScope ["self", "value"] ["self", "value"] (defScope s_i_BadCourse) := ⟨rfl, rfl, rfl, by decide +kernel, rfl, by decide +kernel, by decide +kernel⟩
abbrev s_i_BadTerms : Stmt := inClass (topS 15) 0
theorem sc_i_BadTerms : FnScope ["self", "value"] ["self", "value"] (defScope s_i_BadTerms) := ⟨rfl, rfl, rfl, by decide +kernel, rfl, by decide +kernel, by decide +kernel⟩
abbrev s_i_NoFit : Stmt := inClass (topS 16) 0
theorem sc_i_NoFit : FnScope ["self", "value"] ["self", "value"] (defScope s_i_NoFit) := ⟨rfl, rfl, rfl, by decide +kernel, rfl, by decide +kernel, by decide +kernel⟩
abbrev s_i_NoCompany : Stmt := inClass (topS 17) 0
theorem sc_i_NoCompany : FnScope ["self", "value"] ["self", "value"] (defScope s_i_NoCompany) := ⟨rfl, rfl, rfl, by decide +kernel, rfl, by decide +kernel, by decide +kernel⟩
abbrev s_i_BadWays : Stmt := inClass (topS 18) 0
theorem sc_i_BadWays : FnScope ["self", "value"] ["self", "value"] (defScope s_i_BadWays) := ⟨rfl, rfl, rfl, by decide +kernel, rfl, by decide +kernel, by decide +kernel⟩
abbrev s_i_BadNumber : Stmt := inClass (topS 19) 0
theorem sc_i_BadNumber : FnScope ["self", "value"] ["self", "value"] (defScope s_i_BadNumber) := ⟨rfl, rfl, rfl, by decide +kernel, rfl, by decide +kernel, by decide +kernel⟩
abbrev s_i_BadForest : Stmt := inClass (topS 20) 0
theorem sc_i_BadForest : FnScope ["self", "value"] ["self", "value"] (defScope s_i_BadForest) := ⟨rfl, rfl, rfl, by decide +kernel, rfl, by decide +kernel, by decide +kernel⟩
abbrev s_i_BadOrder : Stmt := inClass (topS 21) 0
theorem sc_i_BadOrder : FnScope ["self", "value"] ["self", "value"] (defScope s_i_BadOrder) := ⟨rfl, rfl, rfl, by decide +kernel, rfl, by decide +kernel, by decide +kernel⟩
abbrev s_i_BadJoin : Stmt := inClass (topS 22) 0
theorem sc_i_BadJoin : FnScope ["self", "value"] ["self", "value"] (defScope s_i_BadJoin) := ⟨rfl, rfl, rfl, by decide +kernel, rfl, by decide +kernel, by decide +kernel⟩
abbrev s_i_BadRow : Stmt := inClass (topS 23) 0
theorem sc_i_BadRow : FnScope ["self", "value"] ["self", "value"] (defScope s_i_BadRow) := ⟨rfl, rfl, rfl, by decide +kernel, rfl, by decide +kernel, by decide +kernel⟩
abbrev s_i_BadTable : Stmt := inClass (topS 24) 0
theorem sc_i_BadTable : FnScope ["self", "value"] ["self", "value"] (defScope s_i_BadTable) := ⟨rfl, rfl, rfl, by decide +kernel, rfl, by decide +kernel, by decide +kernel⟩
abbrev s_i_BadBox : Stmt := inClass (topS 25) 0
theorem sc_i_BadBox : FnScope ["self", "value"] ["self", "value"] (defScope s_i_BadBox) := ⟨rfl, rfl, rfl, by decide +kernel, rfl, by decide +kernel, by decide +kernel⟩
abbrev s_i_BadBoxes : Stmt := inClass (topS 26) 0
theorem sc_i_BadBoxes : FnScope ["self", "value"] ["self", "value"] (defScope s_i_BadBoxes) := ⟨rfl, rfl, rfl, by decide +kernel, rfl, by decide +kernel, by decide +kernel⟩
abbrev s_i_BadSeen : Stmt := inClass (topS 27) 0
theorem sc_i_BadSeen : FnScope ["self", "value"] ["self", "value"] (defScope s_i_BadSeen) := ⟨rfl, rfl, rfl, by decide +kernel, rfl, by decide +kernel, by decide +kernel⟩
abbrev s_i_BadProject : Stmt := inClass (topS 28) 0
theorem sc_i_BadProject : FnScope ["self", "value"] ["self", "value"] (defScope s_i_BadProject) := ⟨rfl, rfl, rfl, by decide +kernel, rfl, by decide +kernel, by decide +kernel⟩
abbrev s_i_BadShare : Stmt := inClass (topS 29) 0
theorem sc_i_BadShare : FnScope ["self", "value"] ["self", "value"] (defScope s_i_BadShare) := ⟨rfl, rfl, rfl, by decide +kernel, rfl, by decide +kernel, by decide +kernel⟩
abbrev s_i_BadYard : Stmt := inClass (topS 30) 0
theorem sc_i_BadYard : FnScope ["self", "value"] ["self", "value"] (defScope s_i_BadYard) := ⟨rfl, rfl, rfl, by decide +kernel, rfl, by decide +kernel, by decide +kernel⟩
abbrev s_i_BadPlan : Stmt := inClass (topS 31) 0
theorem sc_i_BadPlan : FnScope ["self", "value"] ["self", "value"] (defScope s_i_BadPlan) := ⟨rfl, rfl, rfl, by decide +kernel, rfl, by decide +kernel, by decide +kernel⟩
abbrev s_i_BadWorked : Stmt := inClass (topS 32) 0
theorem sc_i_BadWorked : FnScope ["self", "value"] ["self", "value"] (defScope s_i_BadWorked) := ⟨rfl, rfl, rfl, by decide +kernel, rfl, by decide +kernel, by decide +kernel⟩
abbrev s_i_BadGroup : Stmt := inClass (topS 33) 0
theorem sc_i_BadGroup : FnScope ["self", "value"] ["self", "value"] (defScope s_i_BadGroup) := ⟨rfl, rfl, rfl, by decide +kernel, rfl, by decide +kernel, by decide +kernel⟩
abbrev s_i_BadGroupOrder : Stmt := inClass (topS 34) 0
theorem sc_i_BadGroupOrder : FnScope ["self", "value"] ["self", "value"] (defScope s_i_BadGroupOrder) := ⟨rfl, rfl, rfl, by decide +kernel, rfl, by decide +kernel, by decide +kernel⟩
abbrev s_i_BadCondition : Stmt := inClass (topS 35) 0
theorem sc_i_BadCondition : FnScope ["self", "value"] ["self", "value"] (defScope s_i_BadCondition) := ⟨rfl, rfl, rfl, by decide +kernel, rfl, by decide +kernel, by decide +kernel⟩
abbrev s_i_BadStanding : Stmt := inClass (topS 36) 0
theorem sc_i_BadStanding : FnScope ["self", "value"] ["self", "value"] (defScope s_i_BadStanding) := ⟨rfl, rfl, rfl, by decide +kernel, rfl, by decide +kernel, by decide +kernel⟩
abbrev s_i_BadValue : Stmt := inClass (topS 37) 0
theorem sc_i_BadValue : FnScope ["self", "value"] ["self", "value"] (defScope s_i_BadValue) := ⟨rfl, rfl, rfl, by decide +kernel, rfl, by decide +kernel, by decide +kernel⟩
abbrev s_i_BadFirst : Stmt := inClass (topS 38) 0
theorem sc_i_BadFirst : FnScope ["self", "value"] ["self", "value"] (defScope s_i_BadFirst) := ⟨rfl, rfl, rfl, by decide +kernel, rfl, by decide +kernel, by decide +kernel⟩
abbrev s_i_BadOutcome : Stmt := inClass (topS 39) 0
theorem sc_i_BadOutcome : FnScope ["self", "value"] ["self", "value"] (defScope s_i_BadOutcome) := ⟨rfl, rfl, rfl, by decide +kernel, rfl, by decide +kernel, by decide +kernel⟩
abbrev s_i_DayOver : Stmt := inClass (topS 40) 0
theorem sc_i_DayOver : FnScope ["self", "value"] ["self", "value"] (defScope s_i_DayOver) := ⟨rfl, rfl, rfl, by decide +kernel, rfl, by decide +kernel, by decide +kernel⟩
abbrev s_i_NoDeed : Stmt := inClass (topS 41) 0
theorem sc_i_NoDeed : FnScope ["self", "value"] ["self", "value"] (defScope s_i_NoDeed) := ⟨rfl, rfl, rfl, by decide +kernel, rfl, by decide +kernel, by decide +kernel⟩
abbrev s_i_BadMark : Stmt := inClass (topS 42) 0
theorem sc_i_BadMark : FnScope ["self", "value"] ["self", "value"] (defScope s_i_BadMark) := ⟨rfl, rfl, rfl, by decide +kernel, rfl, by decide +kernel, by decide +kernel⟩
abbrev s_i_BadLine : Stmt := inClass (topS 43) 0
theorem sc_i_BadLine : FnScope ["self", "value"] ["self", "value"] (defScope s_i_BadLine) := ⟨rfl, rfl, rfl, by decide +kernel, rfl, by decide +kernel, by decide +kernel⟩
abbrev s_i_NoDay : Stmt := inClass (topS 44) 0
theorem sc_i_NoDay : FnScope ["self", "value"] ["self", "value"] (defScope s_i_NoDay) := ⟨rfl, rfl, rfl, by decide +kernel, rfl, by decide +kernel, by decide +kernel⟩
abbrev s_i_TooMany : Stmt := inClass (topS 45) 0
theorem sc_i_TooMany : FnScope ["self", "value"] ["self", "value"] (defScope s_i_TooMany) := ⟨rfl, rfl, rfl, by decide +kernel, rfl, by decide +kernel, by decide +kernel⟩
theorem sc__law_spread : FnScope ["_law_cell", "_law_at", "_law_primes", "_law_mixed", "_law_one_here", "_law_rest", "_law_two", "_law_three"] ["_law_cell", "_law_at"] (defScope s__law_spread) := ⟨rfl, rfl, rfl, by decide +kernel, rfl, by decide +kernel, by decide +kernel⟩
theorem sc__law_open : FnScope ["_law_script", "_law_cells", "_law_k", "_law_cell"] ["_law_script"] (defScope s__law_open) := ⟨rfl, rfl, rfl, by decide +kernel, rfl, by decide +kernel, by decide +kernel⟩
theorem sc__law_take : FnScope ["_law_pen", "_law_many", "_law_at", "_law_cell", "_law_found"] ["_law_pen", "_law_many"] (defScope s__law_take) := ⟨rfl, rfl, rfl, by decide +kernel, rfl, by decide +kernel, by decide +kernel⟩
theorem sc__law_one : FnScope ["_law_pen", "_law_some"] ["_law_pen", "_law_some"] (defScope s__law_one) := ⟨rfl, rfl, rfl, by decide +kernel, rfl, by decide +kernel, by decide +kernel⟩
theorem sc__law_made : FnScope ["_law_value", "_law_found"] ["_law_value"] (defScope s__law_made) := ⟨rfl, rfl, rfl, by decide +kernel, rfl, by decide +kernel, by decide +kernel⟩
theorem sc__law_kinds : FnScope ["_law_one_here", "_law_found"] ["_law_one_here"] (defScope s__law_kinds) := ⟨rfl, rfl, rfl, by decide +kernel, rfl, by decide +kernel, by decide +kernel⟩
theorem sc_law : FnScope ["_law_script", "_law_pen", "_law_some", "_law_value", "_law_shown", "_law_number", "_law_one_here", "_law_kinds_here", "_law_kept", "_law_made_here"] ["_law_script"] (defScope s_law) := ⟨rfl, rfl, rfl, by decide +kernel, rfl, by decide +kernel, by decide +kernel⟩
/-- what the top has written -/
structure Txt (K : PySem.W.Frag) (mg : Str → Option Value) where
  d__law_spread : FT K mg "_law_spread" s__law_spread ["_law_cell", "_law_at"]
  d__law_open : FT K mg "_law_open" s__law_open ["_law_script"]
  d__law_take : FT K mg "_law_take" s__law_take ["_law_pen", "_law_many"]
  d__law_one : FT K mg "_law_one" s__law_one ["_law_pen", "_law_some"]
  d__law_made : FT K mg "_law_made" s__law_made ["_law_value"]
  d__law_kinds : FT K mg "_law_kinds" s__law_kinds ["_law_one_here"]
  d_law : FT K mg "law" s_law ["_law_script"]
  n_enumerate : mg "enumerate" = none
  n_int : mg "int" = none
  n_isinstance : mg "isinstance" = none
  n_len : mg "len" = none
  n_list : mg "list" = none
  n_repr : mg "repr" = none
  n_ValueError : mg "ValueError" = none
  v_VE : PySem.W.findCls K (.type "ValueError") (.type "type") "__init__" = some (.val (.builtin "ValueError.__init__"))
  M : BaseK K mg "MixError" "MixError.__init__" s_i_MixError
  E_BadFraction : ErrK K mg "BadFraction" "BadFraction.__init__" M.C s_i_BadFraction
  E_BadPair : ErrK K mg "BadPair" "BadPair.__init__" M.C s_i_BadPair
  E_BadPairs : ErrK K mg "BadPairs" "BadPairs.__init__" M.C s_i_BadPairs
  E_BadTerm : ErrK K mg "BadTerm" "BadTerm.__init__" M.C s_i_BadTerm
  E_BadMix : ErrK K mg "BadMix" "BadMix.__init__" M.C s_i_BadMix
  E_BadPlace : ErrK K mg "BadPlace" "BadPlace.__init__" M.C s_i_BadPlace
  E_BadText : ErrK K mg "BadText" "BadText.__init__" M.C s_i_BadText
  E_BadLadder : ErrK K mg "BadLadder" "BadLadder.__init__" M.C s_i_BadLadder
  E_BadLadders : ErrK K mg "BadLadders" "BadLadders.__init__" M.C s_i_BadLadders
  E_NoFrame : ErrK K mg "NoFrame" "NoFrame.__init__" M.C s_i_NoFrame
  E_BadHabit : ErrK K mg "BadHabit" "BadHabit.__init__" M.C s_i_BadHabit
  E_BadChoice : ErrK K mg "BadChoice" "BadChoice.__init__" M.C s_i_BadChoice
  E_BadCourse : ErrK K mg "BadCourse" "BadCourse.__init__" M.C s_i_BadCourse
  E_BadTerms : ErrK K mg "BadTerms" "BadTerms.__init__" M.C s_i_BadTerms
  E_NoFit : ErrK K mg "NoFit" "NoFit.__init__" M.C s_i_NoFit
  E_NoCompany : ErrK K mg "NoCompany" "NoCompany.__init__" M.C s_i_NoCompany
  E_BadWays : ErrK K mg "BadWays" "BadWays.__init__" M.C s_i_BadWays
  E_BadNumber : ErrK K mg "BadNumber" "BadNumber.__init__" M.C s_i_BadNumber
  E_BadForest : ErrK K mg "BadForest" "BadForest.__init__" M.C s_i_BadForest
  E_BadOrder : ErrK K mg "BadOrder" "BadOrder.__init__" M.C s_i_BadOrder
  E_BadJoin : ErrK K mg "BadJoin" "BadJoin.__init__" M.C s_i_BadJoin
  E_BadRow : ErrK K mg "BadRow" "BadRow.__init__" M.C s_i_BadRow
  E_BadTable : ErrK K mg "BadTable" "BadTable.__init__" M.C s_i_BadTable
  E_BadBox : ErrK K mg "BadBox" "BadBox.__init__" M.C s_i_BadBox
  E_BadBoxes : ErrK K mg "BadBoxes" "BadBoxes.__init__" M.C s_i_BadBoxes
  E_BadSeen : ErrK K mg "BadSeen" "BadSeen.__init__" M.C s_i_BadSeen
  E_BadProject : ErrK K mg "BadProject" "BadProject.__init__" M.C s_i_BadProject
  E_BadShare : ErrK K mg "BadShare" "BadShare.__init__" M.C s_i_BadShare
  E_BadYard : ErrK K mg "BadYard" "BadYard.__init__" M.C s_i_BadYard
  E_BadPlan : ErrK K mg "BadPlan" "BadPlan.__init__" M.C s_i_BadPlan
  E_BadWorked : ErrK K mg "BadWorked" "BadWorked.__init__" M.C s_i_BadWorked
  E_BadGroup : ErrK K mg "BadGroup" "BadGroup.__init__" M.C s_i_BadGroup
  E_BadGroupOrder : ErrK K mg "BadGroupOrder" "BadGroupOrder.__init__" M.C s_i_BadGroupOrder
  E_BadCondition : ErrK K mg "BadCondition" "BadCondition.__init__" M.C s_i_BadCondition
  E_BadStanding : ErrK K mg "BadStanding" "BadStanding.__init__" M.C s_i_BadStanding
  E_BadValue : ErrK K mg "BadValue" "BadValue.__init__" M.C s_i_BadValue
  E_BadFirst : ErrK K mg "BadFirst" "BadFirst.__init__" M.C s_i_BadFirst
  E_BadOutcome : ErrK K mg "BadOutcome" "BadOutcome.__init__" M.C s_i_BadOutcome
  E_DayOver : ErrK K mg "DayOver" "DayOver.__init__" M.C s_i_DayOver
  E_NoDeed : ErrK K mg "NoDeed" "NoDeed.__init__" M.C s_i_NoDeed
  E_BadMark : ErrK K mg "BadMark" "BadMark.__init__" M.C s_i_BadMark
  E_BadLine : ErrK K mg "BadLine" "BadLine.__init__" M.C s_i_BadLine
  E_NoDay : ErrK K mg "NoDay" "NoDay.__init__" M.C s_i_NoDay
  E_TooMany : ErrK K mg "TooMany" "TooMany.__init__" M.C s_i_TooMany
/-! ### the head: what the top leaves, read by a Hook -/
def dOf (x : Str) (st : Stmt) : He.DefD := ⟨(x, none), x, x, defArgs st, defBody st, defScope st, [], []⟩
def iOf (x q : Str) (st : Stmt) : He.DefD := ⟨(x, some "__init__"), "__init__", q, defArgs st, defBody st, defScope st, [], []⟩
def fnD : List He.DefD := [dOf "_law_spread" s__law_spread, dOf "_law_open" s__law_open, dOf "_law_take" s__law_take, dOf "_law_one" s__law_one, dOf "_law_made" s__law_made, dOf "_law_kinds" s__law_kinds, dOf "law" s_law]
def fnC0 : List He.DefD := [iOf "MixError" "MixError.__init__" s_i_MixError, iOf "BadFraction" "BadFraction.__init__" s_i_BadFraction, iOf "BadPair" "BadPair.__init__" s_i_BadPair, iOf "BadPairs" "BadPairs.__init__" s_i_BadPairs, iOf "BadTerm" "BadTerm.__init__" s_i_BadTerm, iOf "BadMix" "BadMix.__init__" s_i_BadMix, iOf "BadPlace" "BadPlace.__init__" s_i_BadPlace, iOf "BadText" "BadText.__init__" s_i_BadText, iOf "BadLadder" "BadLadder.__init__" s_i_BadLadder, iOf "BadLadders" "BadLadders.__init__" s_i_BadLadders, iOf "NoFrame" "NoFrame.__init__" s_i_NoFrame, iOf "BadHabit" "BadHabit.__init__" s_i_BadHabit, iOf "BadChoice" "BadChoice.__init__" s_i_BadChoice, iOf "BadCourse" "BadCourse.__init__" s_i_BadCourse, iOf "BadTerms" "BadTerms.__init__" s_i_BadTerms]
def fnC1 : List He.DefD := [iOf "NoFit" "NoFit.__init__" s_i_NoFit, iOf "NoCompany" "NoCompany.__init__" s_i_NoCompany, iOf "BadWays" "BadWays.__init__" s_i_BadWays, iOf "BadNumber" "BadNumber.__init__" s_i_BadNumber, iOf "BadForest" "BadForest.__init__" s_i_BadForest, iOf "BadOrder" "BadOrder.__init__" s_i_BadOrder, iOf "BadJoin" "BadJoin.__init__" s_i_BadJoin, iOf "BadRow" "BadRow.__init__" s_i_BadRow, iOf "BadTable" "BadTable.__init__" s_i_BadTable, iOf "BadBox" "BadBox.__init__" s_i_BadBox, iOf "BadBoxes" "BadBoxes.__init__" s_i_BadBoxes, iOf "BadSeen" "BadSeen.__init__" s_i_BadSeen, iOf "BadProject" "BadProject.__init__" s_i_BadProject, iOf "BadShare" "BadShare.__init__" s_i_BadShare, iOf "BadYard" "BadYard.__init__" s_i_BadYard]
def fnC2 : List He.DefD := [iOf "BadPlan" "BadPlan.__init__" s_i_BadPlan, iOf "BadWorked" "BadWorked.__init__" s_i_BadWorked, iOf "BadGroup" "BadGroup.__init__" s_i_BadGroup, iOf "BadGroupOrder" "BadGroupOrder.__init__" s_i_BadGroupOrder, iOf "BadCondition" "BadCondition.__init__" s_i_BadCondition, iOf "BadStanding" "BadStanding.__init__" s_i_BadStanding, iOf "BadValue" "BadValue.__init__" s_i_BadValue, iOf "BadFirst" "BadFirst.__init__" s_i_BadFirst, iOf "BadOutcome" "BadOutcome.__init__" s_i_BadOutcome, iOf "DayOver" "DayOver.__init__" s_i_DayOver, iOf "NoDeed" "NoDeed.__init__" s_i_NoDeed, iOf "BadMark" "BadMark.__init__" s_i_BadMark, iOf "BadLine" "BadLine.__init__" s_i_BadLine, iOf "NoDay" "NoDay.__init__" s_i_NoDay, iOf "TooMany" "TooMany.__init__" s_i_TooMany]
def hFn : List He.DefD := fnD ++ fnC0 ++ fnC1 ++ fnC2
def clN0 : List Str := ["MixError", "BadFraction", "BadPair", "BadPairs", "BadTerm", "BadMix", "BadPlace", "BadText", "BadLadder", "BadLadders", "NoFrame", "BadHabit", "BadChoice", "BadCourse", "BadTerms"]
def clN1 : List Str := ["NoFit", "NoCompany", "BadWays", "BadNumber", "BadForest", "BadOrder", "BadJoin", "BadRow", "BadTable", "BadBox", "BadBoxes", "BadSeen", "BadProject", "BadShare", "BadYard"]
def clN2 : List Str := ["BadPlan", "BadWorked", "BadGroup", "BadGroupOrder", "BadCondition", "BadStanding", "BadValue", "BadFirst", "BadOutcome", "DayOver", "NoDeed", "BadMark", "BadLine", "NoDay", "TooMany"]
def hFa : List He.Fa := [.glo "_law_spread", .glo "_law_open", .glo "_law_take", .glo "_law_one", .glo "_law_made", .glo "_law_kinds", .glo "law", .free "enumerate", .free "int", .free "isinstance", .free "len", .free "list", .free "repr", .free "ValueError"] ++ clN0.map He.Fa.glo ++ clN1.map He.Fa.glo ++ clN2.map He.Fa.glo
def clE0 : List Str := ["BadFraction", "BadPair", "BadPairs", "BadTerm", "BadMix", "BadPlace", "BadText", "BadLadder", "BadLadders", "NoFrame", "BadHabit", "BadChoice", "BadCourse", "BadTerms", "NoFit"]
def clE1 : List Str := ["NoCompany", "BadWays", "BadNumber", "BadForest", "BadOrder", "BadJoin", "BadRow", "BadTable", "BadBox", "BadBoxes", "BadSeen", "BadProject", "BadShare", "BadYard", "BadPlan"]
def clE2 : List Str := ["BadWorked", "BadGroup", "BadGroupOrder", "BadCondition", "BadStanding", "BadValue", "BadFirst", "BadOutcome", "DayOver", "NoDeed", "BadMark", "BadLine", "NoDay", "TooMany"]
def iniB (K : PySem.W.Frag) (c : Value) (v : Value) : Bool := match PySem.W.findCls K c (.type "type") "__init__" with
  | some (.val u) => decide (u = v)
  | _ => false
theorem ini_ok {K : PySem.W.Frag} {c v : Value} (h : iniB K c v = true) : PySem.W.findCls K c (.type "type") "__init__" = some (.val v) := by
  unfold iniB at h
  split at h
  · rename_i u e
    rw [e, of_decide_eq_true h]
  · cases h
def exB (K : PySem.W.Frag) : Bool := iniB K (.type "ValueError") (.builtin "ValueError.__init__") && (iniB K (.ref (He.ga K "MixError")) (.ref (He.fAd K ("MixError", some "__init__"))) && (baseB K (He.ga K "MixError") (He.fAd K ("MixError", some "__init__")) &&
  (clE0.all (fun x => errB K (He.ga K x) (He.ga K "MixError") (He.fAd K (x, some "__init__")) x) && clE1.all (fun x => errB K (He.ga K x) (He.ga K "MixError") (He.fAd K (x, some "__init__")) x) && clE2.all (fun x => errB K (He.ga K x) (He.ga K "MixError") (He.fAd K (x, some "__init__")) x))))
abbrev RR : PySem.W.OpenRow := PySem.W.OpenLaw.row PySem.Challenge.rw_onenumber_k00_errors_by_hand
def hNm0 : List Str := ["MixError", "BadFraction", "BadPair", "BadPairs", "BadTerm", "BadMix", "BadPlace", "BadText", "BadLadder", "BadLadders", "NoFrame", "BadHabit", "BadChoice", "BadCourse", "BadTerms", "NoFit", "NoCompany", "BadWays", "BadNumber", "BadForest"]
def hNm1 : List Str := ["BadOrder", "BadJoin", "BadRow", "BadTable", "BadBox", "BadBoxes", "BadSeen", "BadProject", "BadShare", "BadYard", "BadPlan", "BadWorked", "BadGroup", "BadGroupOrder", "BadCondition", "BadStanding", "BadValue", "BadFirst", "BadOutcome", "DayOver"]
def hNm2 : List Str := ["NoDeed", "BadMark", "BadLine", "NoDay", "TooMany", "_law_spread", "_law_open", "_law_take", "_law_one", "_law_made", "_law_kinds"]
def hNames : List Str := hNm0 ++ hNm1 ++ hNm2
/-- what an object leads on to: a class to its hNames, a def to its code, a table to its values -/
def onH (o : Obj) : List Addr := match o.data with
  | .cls cd => [cd.ns]
  | .func fd => He.refV fd.code
  | .dict es _ => es.toList.flatMap fun e => He.refV e.val
  | _ => []
def stepH (g : Addr → Option Obj) (as : List Addr) : List Addr := as.flatMap fun a => match g a with
  | some o => onH o
  | none => []
def reachH (g : Addr → Option Obj) : Nat → List Addr → List Addr
  | 0, as => as
  | n + 1, as => as ++ reachH g n (stepH g as)
/-- the piece of the heap that the hFacts speak of: what the module's hNames reach, the statics -/
def KH (g : Addr → Option Obj) : PySem.W.Frag := He.frG g (cStatics :: reachH g 4 [mainGlobals])
def obH (g : Addr → Option Obj) : He.AlD × Bool := (He.obsD hFa hFn (KH g), exB (KH g))
structure SaysH (K : PySem.W.Frag) : Prop where
  t : He.SaysD hFa hFn K
  more : exB K = true
def hHk : PySem.W.Hook where
  α := He.AlD × Bool
  obs := fun z => obH z.heap.get?
  val := fun _ => (He.valD hFn, true)
  says := fun _ g => ∃ F : PySem.W.Frag, F.In g ∧ SaysH F
  of := fun _ _ z => ⟨_, He.frG_in, congrArg (fun y : He.AlD × Bool => y.1) z, congrArg (fun y : He.AlD × Bool => y.2) z⟩
  keeps := fun _ _ _ ⟨F, i, q⟩ z => ⟨F, PySem.W.Frag.In.keeps i z, q⟩
def hOb (s : PySem.W.SharedT) : He.AlD × Bool := obH (HandSHeadRun.getT s)
theorem hOb_eq (s : PySem.W.SharedT) : hOb s = hHk.obs s.abs := by
  have e : HandSHeadRun.getT s = s.abs.heap.get? := funext (HandSHeadRun.getT_eq s)
  unfold hOb
  rw [e]
  rfl
theorem hRun (w : World) : HandSHeadRun.RunEq RR (PySem.W.view RR.prog [53]) hHk hOb 11300 hNames w := by
  intro os
  kernel_rfl
/-! ### the law's own draws -/
/-- all but what stands at p is as it was -/
def ExB (p : Addr) (H H' : Hp) : Prop := ∀ b o, b ≠ p → H b = some o → H' b = some o
theorem ExB.refl (p : Addr) (H : Hp) : ExB p H H := fun _ _ _ h => h
theorem ExB.trans {p : Addr} {H H1 H2 : Hp} (a : ExB p H H1) (b : ExB p H1 H2) : ExB p H H2 := fun c o n h => b c o n (a c o n h)
theorem Ex.b {p : Addr} {H H1 : Hp} (a : Ex H H1) : ExB p H H1 := fun c o _ h => a c o h
theorem ExB.upd {p : Addr} {H H1 : Hp} {o : HO} (a : ExB p H H1) : ExB p H (upd H1 p o) := fun c o n h => by
  rw [upd_ne n]
  exact a c o n h
/-- the pen at p: its cells, its place, its rest -/
def Pen (H : Hp) (p a : Addr) (N : Nat) : Prop := ∃ (cs : List Int) (at_ vl : Int), H p = some (.lst [.ref a, .int at_, .int vl]) ∧ H a = some (.lst (cs.map V.int)) ∧ a ≠ p ∧ 0 ≤ at_ ∧ at_ ≤ N ∧ 0 ≤ vl ∧ cs.length ≤ 12
theorem Pen.ex {H H' : Hp} {p a : Addr} {N : Nat} (e : Ex H H') (h : Pen H p a N) : Pen H' p a N := by
  obtain ⟨cs, t, v, h1, h2, r⟩ := h
  exact ⟨cs, t, v, e _ _ h1, e _ _ h2, r⟩
theorem Pen.mono {H : Hp} {p a : Addr} {N M : Nat} (e : N ≤ M) (h : Pen H p a N) : Pen H p a M := by
  obtain ⟨cs, t, v, h1, h2, h3, h4, h5, r⟩ := h
  exact ⟨cs, t, v, h1, h2, h3, h4, by omega, r⟩
theorem Pen.hasP {H : Hp} {p a : Addr} {N : Nat} (h : Pen H p a N) : ∃ xs, H p = some (.lst xs) := by
  obtain ⟨cs, t, v, h1, _⟩ := h
  exact ⟨_, h1⟩
theorem Pen.hasC {H : Hp} {p a : Addr} {N : Nat} (h : Pen H p a N) : ∃ xs, H a = some (.lst xs) := by
  obtain ⟨cs, t, v, _, h1, _⟩ := h
  exact ⟨_, h1⟩
/-- a new or another object's store leaves it -/
theorem Pen.upd {H : Hp} {p a q : Addr} {N : Nat} {o : HO} (h : Pen H p a N) (h1 : q ≠ p) (h2 : q ≠ a) : Pen (upd H q o) p a N := by
  obtain ⟨cs, t, v, e1, e2, r⟩ := h
  exact ⟨cs, t, v, by rw [upd_ne h1.symm]; exact e1, by rw [upd_ne h2.symm]; exact e2, r⟩
/-- a tuple stays where a list changes -/
theorem tup_lst {K : PySem.W.Frag} {H H' : Hp} {p c : Addr} {xs ys : List V} (hp : H p = some (.lst xs)) (e : ExB p H H') (h : SqT K H c ys) : SqT K H' c ys := by
  rcases h with (h | ⟨o, h⟩) | h
  · exact .inl (.inl (e c _ (by rintro rfl; rw [hp] at h; cases h) h))
  · exact .inl (.inr ⟨o, e c _ (by rintro rfl; rw [hp] at h; cases h) h⟩)
  · exact .inr h
theorem Fr.lst {K : PySem.W.Frag} {H H' : Hp} {p : Addr} {xs : List V} {b : Nat} {q : Rat} {z : V} (hp : H p = some (.lst xs)) (e : ExB p H H') (h : Fr K b q z H) : Fr K b q z H' := by
  obtain ⟨c, rfl, h, x⟩ := h
  exact ⟨c, rfl, tup_lst hp e h, x⟩
/-- a way through a block, joined behind its first statement -/
theorem s_join {t u : TS} {D : Ends} {σ : L2.St} {H : Hp} (R : L2.St → Hp → Prop) (h1 : ∀ N : L2.St → Hp → Prop, (∀ σ H, R σ H → N σ H) → t { D with nx := N } σ H) (h2 : ∀ σ H, R σ H → u D σ H) : tSeq t u D σ H := h1 (u D) h2
theorem n_seq {t u : TS} {D : Ends} {σ : L2.St} {H : Hp} (h : t { D with nx := u D } σ H) : tSeq t u D σ H := h
theorem n_c {i : Nat} {v : V} {D : Ends} {σ : L2.St} {H : Hp} (h : D.nx (σ.set i (some v)) H) : tAsg (tC v) (gName i) D σ H := h
theorem atI_map {ms : List Int} {i : Int} (h0 : 0 ≤ i) (h : i < ms.length) : ∃ x, atI (ms.map V.int) i = some (.int x) := by
  obtain ⟨k, rfl⟩ : ∃ k : Nat, i = k := ⟨i.toNat, by omega⟩
  have hk : k < ms.length := by omega
  exact ⟨ms[k], atI_nat (by rw [List.getElem?_map, List.getElem?_eq_getElem hk]; rfl)⟩
def primes : List Int := [2147483629, 2147483587, 2147483579, 2147483563, 2147483549, 2147483543, 2147483497, 2147483489, 2147483477, 2147483423, 2147483399, 2147483353, 2147483323]
theorem prime_at {i : Int} (h0 : 0 ≤ i) (h : i < 13) : ∃ x : Int, atI (primes.map V.int) i = some (.int x) ∧ 0 < x ∧ x < 2147483648 := by
  have hk : ∀ k : Fin 13, ∃ x : Int, (primes.map V.int)[k.val]? = some (.int x) ∧ 0 < x ∧ x < 2147483648 := fun k => by
    have hl : k.val < primes.length := k.isLt
    refine ⟨primes[k.val], by rw [List.getElem?_map, List.getElem?_eq_getElem hl]; rfl, ?_⟩
    have : ∀ x ∈ primes, 0 < x ∧ x < 2147483648 := by decide
    exact this _ (List.getElem_mem hl)
  obtain ⟨x, e, hx⟩ := hk ⟨i.toNat, by omega⟩
  refine ⟨x, ?_, hx⟩
  have e2 := atI_nat e
  rwa [show ((i.toNat : Nat) : Int) = i by omega] at e2
theorem b64 {i : Int} (h0 : 0 ≤ i) (h : i < 18446744073709551616) : i.natAbs < 2 ^ 64 := by
  show i.natAbs < 18446744073709551616
  omega
section
variable {P : Program} {w : World} {K : PySem.W.Frag} {mg : Str → Option Value} {base : Heap}
def spSpread : Sp := fun vs H Q _ => ∃ c t : Int, vs = [.int c, .int t] ∧ 0 ≤ t ∧ t ≤ 1000 ∧ ∀ v H', 0 ≤ v → Ex H H' → Q (.int v) H'
theorem ok__law_spread (T : Txt K mg) : FnOk P w K mg base CX0 1 T.d__law_spread.a T.d__law_spread.fd ["_law_cell", "_law_at"] spSpread := by
  refine T.d__law_spread.F.ok sc__law_spread (fun vs H Q E h => ?_) (fun cdv A outer s H vs Q E hr h => ?_)
  · obtain ⟨c, t, rfl, _⟩ := h
    rfl
  · obtain ⟨c, t, rfl, h0, h1, k⟩ := h
    refine ⟨_, (pss_cons (ps_if (pt_cmpR op_ge (pv 0) (pe_op op_pow pe_int pe_int) (nomark _)) (pss_one (ps_ret (pv 0))) pss_nil)
      (pss_cons (ps_set (i := 2) sc__law_spread.nd rfl (Or.inl rfl) (pe_lst (pa_cons pe_int (pa_cons pe_int (pa_cons pe_int (pa_cons pe_int (pa_cons pe_int (pa_cons pe_int (pa_cons pe_int pa_nil)))))))))
      (pss_cons (ps_set (i := 2) sc__law_spread.nd rfl (Or.inl rfl) (pe_op op_cat (pv 2) (pe_lst (pa_cons pe_int (pa_cons pe_int (pa_cons pe_int (pa_cons pe_int (pa_cons pe_int (pa_cons pe_int pa_nil)))))))))
      (pss_cons (ps_set (i := 3) sc__law_spread.nd rfl (Or.inl rfl) (pe_op op_add (pe_op op_add (pe_op op_mulW (pe_op op_mod (pe_callTy call_int1 (by rfl) T.n_int (by decide +kernel) (pa_cons (pv 0) pa_nil)) pe_int) (pe_op op_add (pe_op op_mulW pe_int (pv 1)) pe_int)) (pe_op op_mulW (pv 1) pe_int)) pe_int))
      (pss_cons (ps_set (i := 4) sc__law_spread.nd rfl (Or.inl rfl) (pe_op op_mod (pe_callTy call_int1 (by rfl) T.n_int (by decide +kernel) (pa_cons (pe_op op_pow (pv 3) pe_int) pa_nil)) (pe_ix ix_list (pv 2) (pe_op op_mod (pe_callTy call_int1 (by rfl) T.n_int (by decide +kernel) (pa_cons (pv 1) pa_nil)) pe_int) (fun _ _ => rfl))))
      (pss_cons (ps_set (i := 5) sc__law_spread.nd rfl (Or.inl rfl) (pe_op op_add (pe_op op_mod (pe_callTy call_int1 (by rfl) T.n_int (by decide +kernel) (pa_cons (pv 0) pa_nil)) pe_int) pe_int))
      (pss_cons (ps_set (i := 6) sc__law_spread.nd rfl (Or.inl rfl) (pe_op op_mod (pe_callTy call_int1 (by rfl) T.n_int (by decide +kernel) (pa_cons (pe_op op_pow (pe_op op_add (pe_op op_mulW (pv 4) (pe_op op_add (pv 1) pe_int)) (pv 5)) pe_int) pa_nil)) (pe_ix ix_list (pv 2) (pe_op op_mod (pe_callTy call_int1 (by rfl) T.n_int (by decide +kernel) (pa_cons (pe_op op_add (pv 1) pe_int) pa_nil)) pe_int) (fun _ _ => rfl))))
      (pss_cons (ps_set (i := 7) sc__law_spread.nd rfl (Or.inl rfl) (pe_op op_mod (pe_callTy call_int1 (by rfl) T.n_int (by decide +kernel) (pa_cons (pe_op op_pow (pe_op op_add (pe_op op_add (pv 6) (pe_op op_mod (pe_callTy call_int1 (by rfl) T.n_int (by decide +kernel) (pa_cons (pv 4) pa_nil)) pe_int)) (pv 1)) pe_int) pa_nil)) (pe_ix ix_list (pv 2) (pe_op op_mod (pe_callTy call_int1 (by rfl) T.n_int (by decide +kernel) (pa_cons (pe_op op_add (pv 1) pe_int) pa_nil)) pe_int) (fun _ _ => rfl))))
      (pss_one (ps_ret (pe_op op_add (pe_op op_mulW (pe_op op_add (pe_op op_mulW (pv 4) pe_int) (pv 6)) pe_int) (pv 7)))))))))))), ?_⟩
    -- if cell >= 10 ** 18
    refine ⟨_, rfl, 10, 18, rfl, rfl, ⟨by decide, by decide, by decide⟩, c, _, rfl, rfl, _, rfl, ite2 (fun e => ?_) (fun e => ?_)⟩
    · have e' : (10 : Int) ^ (18 : Int).toNat ≤ c := of_decide_eq_true e
      have e2 : (10 : Int) ^ (18 : Int).toNat = 1000000000000000000 := by decide
      exact ⟨_, rfl, k c H (by omega) (Ex.refl H)⟩
    · -- the primes
      refine ⟨by show 7 ≤ sizeLine; decide, fun p1 f1 => ?_⟩
      refine ⟨.ref p1, rfl, by show 6 ≤ sizeLine; decide, fun p2 f2 => ?_⟩
      have n12 : p1 ≠ p2 := fun z => by
        rw [← z, upd_same] at f2
        cases f2
      refine ⟨p1, p2, _, _, rfl, rfl, (by rw [upd_ne n12]; exact upd_same), upd_same, (by show 13 ≤ sizeLine; decide), fun p3 f3 => ?_⟩
      have e1 : Ex H (upd (upd (upd H p1 (.lst [.int 2147483629, .int 2147483587, .int 2147483579, .int 2147483563, .int 2147483549, .int 2147483543, .int 2147483497])) p2 (.lst [.int 2147483489, .int 2147483477, .int 2147483423, .int 2147483399, .int 2147483353, .int 2147483323])) p3 (.lst ([.int 2147483629, .int 2147483587, .int 2147483579, .int 2147483563, .int 2147483549, .int 2147483543, .int 2147483497] ++ [.int 2147483489, .int 2147483477, .int 2147483423, .int 2147483399, .int 2147483353, .int 2147483323]))) :=
        ((Ex.new f1).trans (Ex.new f2)).trans (Ex.new f3)
      have hp : SqL K (upd (upd (upd H p1 (.lst [.int 2147483629, .int 2147483587, .int 2147483579, .int 2147483563, .int 2147483549, .int 2147483543, .int 2147483497])) p2 (.lst [.int 2147483489, .int 2147483477, .int 2147483423, .int 2147483399, .int 2147483353, .int 2147483323])) p3 (.lst ([.int 2147483629, .int 2147483587, .int 2147483579, .int 2147483563, .int 2147483549, .int 2147483543, .int 2147483497] ++ [.int 2147483489, .int 2147483477, .int 2147483423, .int 2147483399, .int 2147483353, .int 2147483323]))) p3 (primes.map V.int) := SqL.of upd_same
      -- mixed
      have a0 : 0 ≤ c % 1000000007 := Int.emod_nonneg _ (by decide)
      have a1 : c % 1000000007 < 1000000007 := Int.emod_lt_of_pos _ (by decide)
      generalize hc : c % 1000000007 = m at a0 a1
      have b0 : 0 ≤ m * (2 * t + 69069) := Int.mul_nonneg a0 (by omega)
      have b1 : m * (2 * t + 69069) ≤ 1000000007 * 71069 := Int.le_trans (Int.mul_le_mul_of_nonneg_right (by omega : m ≤ 1000000007) (by omega)) (Int.mul_le_mul_of_nonneg_left (by omega) (by decide))
      refine ⟨.int c, rfl, .inl ⟨c, rfl, c, 1000000007, rfl, rfl, (by decide : (0 : Int) < 1000000007), _, rfl, 2, t, rfl, rfl, mulW (a := 64) (b := 64) (b64 (by decide) (by decide)) (b64 h0 (by omega)) (by decide), 2 * t, 69069, rfl, rfl, c % 1000000007, 2 * t + 69069, rfl, rfl, (by rw [hc]; exact mulW (a := 64) (b := 64) (b64 a0 (by omega)) (b64 (by omega) (by omega)) (by decide)), ?_⟩⟩
      rw [hc]
      refine ⟨_, rfl, t, 40503, rfl, rfl, mulW (a := 64) (b := 64) (b64 h0 (by omega)) (b64 (by decide) (by decide)) (by decide), m * (2 * t + 69069), t * 40503, rfl, rfl, m * (2 * t + 69069) + t * 40503, 977, rfl, rfl, ?_⟩
      have m0 : 0 ≤ m * (2 * t + 69069) + t * 40503 + 977 := by omega
      have m1 : m * (2 * t + 69069) + t * 40503 + 977 < 18446744073709551616 := by omega
      -- one
      refine ⟨_, rfl, m * (2 * t + 69069) + t * 40503 + 977, 3, rfl, rfl, ⟨by decide, by decide, b64 m0 m1⟩, .inl ⟨_, rfl, _, rfl, _, rfl, .inl ⟨t, rfl, t, 13, rfl, rfl, (by decide : (0 : Int) < 13), ?_⟩⟩⟩
      obtain ⟨x1, g1, q1, r1⟩ := prime_at (i := t % 13) (Int.emod_nonneg _ (by decide)) (Int.emod_lt_of_pos _ (by decide))
      refine ⟨p3, _, t % 13, .int x1, rfl, rfl, hp, g1, _, x1, rfl, rfl, q1, ?_⟩
      have o0 : 0 ≤ (m * (2 * t + 69069) + t * 40503 + 977) ^ (3 : Int).toNat % x1 := Int.emod_nonneg _ (by omega)
      have o1 : (m * (2 * t + 69069) + t * 40503 + 977) ^ (3 : Int).toNat % x1 < 2147483648 := Int.lt_trans (Int.emod_lt_of_pos _ q1) r1
      dsimp only
      generalize (m * (2 * t + 69069) + t * 40503 + 977) ^ (3 : Int).toNat % x1 = o at o0 o1 ⊢
      -- rest
      refine ⟨.int c, rfl, .inl ⟨c, rfl, c, 65537, rfl, rfl, (by decide : (0 : Int) < 65537), c % 65537, 5, rfl, rfl, ?_⟩⟩
      have s0 : 0 ≤ c % 65537 := Int.emod_nonneg _ (by decide)
      have s1 : c % 65537 < 65537 := Int.emod_lt_of_pos _ (by decide)
      dsimp only
      generalize c % 65537 = s2 at s0 s1 ⊢
      -- two
      have w0 : 0 ≤ o * (t + 3) := Int.mul_nonneg o0 (by omega)
      have w1 : o * (t + 3) ≤ 2147483648 * 1003 := Int.le_trans (Int.mul_le_mul_of_nonneg_right (by omega : o ≤ 2147483648) (by omega)) (Int.mul_le_mul_of_nonneg_left (by omega) (by decide))
      refine ⟨.int o, rfl, .int t, rfl, t, 3, rfl, rfl, o, t + 3, rfl, rfl, mulW (a := 64) (b := 64) (b64 o0 (by omega)) (b64 (by omega) (by omega)) (by decide), .int (s2 + 5), rfl, o * (t + 3), s2 + 5, rfl, rfl, o * (t + 3) + (s2 + 5), 5, rfl, rfl, ⟨by decide, by decide, b64 (by omega) (by omega)⟩, .inl ⟨_, rfl, _, rfl, .int t, rfl, t, 5, rfl, rfl, .inl ⟨t + 5, rfl, t + 5, 13, rfl, rfl, (by decide : (0 : Int) < 13), ?_⟩⟩⟩
      obtain ⟨x2, g2, q2, r2⟩ := prime_at (i := (t + 5) % 13) (Int.emod_nonneg _ (by decide)) (Int.emod_lt_of_pos _ (by decide))
      refine ⟨p3, _, (t + 5) % 13, .int x2, rfl, rfl, hp, g2, _, x2, rfl, rfl, q2, ?_⟩
      have u0 : 0 ≤ (o * (t + 3) + (s2 + 5)) ^ (5 : Int).toNat % x2 := Int.emod_nonneg _ (by omega)
      have u1 : (o * (t + 3) + (s2 + 5)) ^ (5 : Int).toNat % x2 < 2147483648 := Int.lt_trans (Int.emod_lt_of_pos _ q2) r2
      dsimp only
      generalize (o * (t + 3) + (s2 + 5)) ^ (5 : Int).toNat % x2 = y at u0 u1 ⊢
      -- three
      have z0 : 0 ≤ o % 1009 := Int.emod_nonneg _ (by decide)
      have z1 : o % 1009 < 1009 := Int.emod_lt_of_pos _ (by decide)
      refine ⟨.int y, rfl, .int o, rfl, .inl ⟨o, rfl, o, 1009, rfl, rfl, (by decide : (0 : Int) < 1009), y, o % 1009, rfl, rfl, .int t, rfl, y + o % 1009, t, rfl, rfl, y + o % 1009 + t, 3, rfl, rfl, ⟨by decide, by decide, b64 (by omega) (by omega)⟩, .inl ⟨_, rfl, _, rfl, .int t, rfl, t, 7, rfl, rfl, .inl ⟨t + 7, rfl, t + 7, 13, rfl, rfl, (by decide : (0 : Int) < 13), ?_⟩⟩⟩⟩
      obtain ⟨x3, g3, q3, r3⟩ := prime_at (i := (t + 7) % 13) (Int.emod_nonneg _ (by decide)) (Int.emod_lt_of_pos _ (by decide))
      refine ⟨p3, _, (t + 7) % 13, .int x3, rfl, rfl, hp, g3, _, x3, rfl, rfl, q3, ?_⟩
      have v0 : 0 ≤ (y + o % 1009 + t) ^ (3 : Int).toNat % x3 := Int.emod_nonneg _ (by omega)
      dsimp only
      generalize (y + o % 1009 + t) ^ (3 : Int).toNat % x3 = y3 at v0 ⊢
      -- return
      refine ⟨.int o, rfl, o, 2147483647, rfl, rfl, mulW (a := 64) (b := 64) (b64 o0 (by omega)) (b64 (by decide) (by decide)) (by decide), .int y, rfl, o * 2147483647, y, rfl, rfl, o * 2147483647 + y, 2147483647, rfl, rfl, mulW (a := 64) (b := 64) (b64 (by omega) (by omega)) (b64 (by decide) (by decide)) (by decide), .int y3, rfl, _, y3, rfl, rfl, ?_⟩
      exact k _ _ (by omega) e1
def spTake (K : PySem.W.Frag) : Sp := fun vs H Q _ => ∃ (p a : Addr) (m : Int) (N : Nat), vs = [.ref p, .int m] ∧ Pen H p a N ∧ 0 < m ∧ m < 1073741824 ∧ N ≤ 990 ∧ ∀ r H', 0 ≤ r → r < m → ExB p H H' → Pen H' p a (N + 1) → Q (.int r) H'
theorem ok__law_take (T : Txt K mg) : FnOk P w K mg base CX0 2 T.d__law_take.a T.d__law_take.fd ["_law_pen", "_law_many"] (spTake K) := by
  refine T.d__law_take.F.ok sc__law_take (fun vs H Q E h => ?_) (fun cdv A outer s H vs Q E hr h => ?_)
  · obtain ⟨p, a, m, N, rfl, _⟩ := h
    rfl
  · obtain ⟨p, a, m, N, rfl, ⟨cs, t, v, hp, ha, hne, t0, t1, v0, hlen⟩, m0, m1, hN, k⟩ := h
    refine ⟨_, (pss_cons (ps_if (pt_cmpR op_lt (pe_ix ix_list (pv 0) pe_int (fun _ _ => rfl)) (pv 1) (nomark _)) (pss_cons (ps_set (i := 2) sc__law_take.nd rfl (Or.inl rfl) (pe_ix ix_list (pv 0) pe_int (fun _ _ => rfl)))
      (pss_cons (ps_set (i := 3) sc__law_take.nd rfl (Or.inl rfl) pe_int)
      (pss_cons (ps_if (pt_cmpR op_lt (pv 2) (pe_callB call_len_seq (by rfl) T.n_len (by decide +kernel) (pa_cons (pe_ix ix_list (pv 0) pe_int (fun _ _ => rfl)) pa_nil)) (nomark _)) (pss_one (ps_set (i := 3) sc__law_take.nd rfl (Or.inl rfl) (pe_ix ix_list (pe_ix ix_list (pv 0) pe_int (fun _ _ => rfl)) (pv 2) (fun _ _ => rfl)))) (pss_one (ps_if (pt_cmpR op_gt (pe_callB call_len_seq (by rfl) T.n_len (by decide +kernel) (pa_cons (pe_ix ix_list (pv 0) pe_int (fun _ _ => rfl)) pa_nil)) pe_int (nomark _)) (pss_one (ps_set (i := 3) sc__law_take.nd rfl (Or.inl rfl) (pe_op op_mod (pe_callTy call_int1 (by rfl) T.n_int (by decide +kernel) (pa_cons (pe_ix ix_list (pe_ix ix_list (pv 0) pe_int (fun _ _ => rfl)) (pe_op op_mod (pe_callTy call_int1 (by rfl) T.n_int (by decide +kernel) (pa_cons (pe_op op_add (pe_op op_mulW (pv 2) pe_int) pe_int) pa_nil)) (pe_callB call_len_seq (by rfl) T.n_len (by decide +kernel) (pa_cons (pe_ix ix_list (pv 0) pe_int (fun _ _ => rfl)) pa_nil))) (fun _ _ => rfl)) pa_nil)) (pe_op op_add (pe_op op_pow pe_int pe_int) (pv 2))))) pss_nil)))
      (pss_cons (ps_asg (pe_op op_add (pv 2) pe_int) (pg_sub (pv 0) pe_int set_list))
      (pss_one (ps_asg (pe_call (ok__law_spread T) (hr.mono (by decide)) (by rfl) T.d__law_spread.g T.d__law_spread.F.kp T.d__law_spread.b .nil pass0 (pa_cons (pv 3) (pa_cons (pv 2) pa_nil))) (pg_sub (pv 0) pe_int set_list))))))) pss_nil)
      (pss_cons (ps_set (i := 4) sc__law_take.nd rfl (Or.inl rfl) (pe_op op_mod (pe_callTy call_int1 (by rfl) T.n_int (by decide +kernel) (pa_cons (pe_ix ix_list (pv 0) pe_int (fun _ _ => rfl)) pa_nil)) (pv 1)))
      (pss_cons (ps_asg (pe_op op_fdivN (pe_ix ix_list (pv 0) pe_int (fun _ _ => rfl)) (pv 1)) (pg_sub (pv 0) pe_int set_list))
      (pss_one (ps_ret (pv 4)))))), ?_⟩
    have hP : ∀ {H : Hp}, H p = some (.lst [.ref a, .int t, .int v]) → SqL K H p [.ref a, .int t, .int v] := fun h => SqL.of h
    -- behind the if: the pen holds some rest
    refine s_join (fun σ H' => ∃ s2 s3 t' v', σ = [some (.ref p), some (.int m), s2, s3, none] ∧ H' p = some (.lst [.ref a, .int t', .int v']) ∧ ExB p H H' ∧ 0 ≤ t' ∧ t' ≤ N + 1 ∧ 0 ≤ v') (fun NX hNX => ?_) ?_
    · refine ⟨.ref p, rfl, p, _, 2, .int v, rfl, rfl, hP hp, rfl, .int m, rfl, v, m, rfl, rfl, _, rfl, ite2 (fun c => ?_) (fun c => ?_)⟩
      · refine ⟨.ref p, rfl, p, _, 1, .int t, rfl, rfl, hP hp, rfl, ?_⟩
        -- cell
        show tSeq (tAsg (tC (.int 0)) (gName 3)) _ _ _ _
        refine n_seq (n_c ?_)
        dsimp only
        refine s_join (fun σ H'' => ∃ c : Int, σ = [some (.ref p), some (.int m), some (.int t), some (.int c), none] ∧ H'' = H) (fun NX2 h2 => ?_) ?_
        · refine ⟨.int t, rfl, .ref p, rfl, p, _, 0, .ref a, rfl, rfl, hP hp, rfl, a, _, rfl, .inl (SqL.of ha), t, _, rfl, rfl, _, rfl, ite2 (fun d => ?_) (fun d => ?_)⟩
          · have d' : t < (cs.map V.int).length := of_decide_eq_true d
            rw [List.length_map] at d'
            obtain ⟨x, hx⟩ := atI_map (ms := cs) t0 d'
            exact ⟨.ref p, rfl, p, _, 0, .ref a, rfl, rfl, hP hp, rfl, .int t, rfl, a, _, t, .int x, rfl, rfl, SqL.of ha, hx, h2 _ _ ⟨x, rfl, rfl⟩⟩
          · refine ⟨.ref p, rfl, p, _, 0, .ref a, rfl, rfl, hP hp, rfl, a, _, rfl, .inl (SqL.of ha), _, 0, rfl, rfl, _, rfl, ite2 (fun f => ?_) (fun f => ?_)⟩
            · have f' : 0 < ((cs.map V.int).length : Int) := of_decide_eq_true f
              have f2 := f'
              rw [List.length_map] at f2
              obtain ⟨x, hx⟩ := atI_map (ms := cs) (i := (t * 5 + 3) % (cs.length : Int)) (Int.emod_nonneg _ (by omega)) (Int.emod_lt_of_pos _ f2)
              refine ⟨.ref p, rfl, p, _, 0, .ref a, rfl, rfl, hP hp, rfl, .int t, rfl, t, 5, rfl, rfl, mulW (a := 64) (b := 64) (b64 t0 (by omega)) (b64 (by decide) (by decide)) (by decide), t * 5, 3, rfl, rfl, .inl ⟨t * 5 + 3, rfl, .ref p, rfl, p, _, 0, .ref a, rfl, rfl, hP hp, rfl, a, _, rfl, .inl (SqL.of ha), _, _, rfl, rfl, f', ?_⟩⟩
              rw [List.length_map]
              refine ⟨a, _, (t * 5 + 3) % (cs.length : Int), .int x, rfl, rfl, SqL.of ha, hx, .inl ⟨x, rfl, 10, 17, rfl, rfl, ⟨by decide, by decide, by decide⟩, .int t, rfl, _, t, rfl, rfl, x, _, rfl, rfl, ?_, h2 _ _ ⟨_, rfl, rfl⟩⟩⟩
              have e2 : (10 : Int) ^ (17 : Int).toNat = 100000000000000000 := by decide
              show (0 : Int) < (10 : Int) ^ (17 : Int).toNat + t
              omega
            · exact h2 _ _ ⟨0, rfl, rfl⟩
        rintro σ H'' ⟨c1, rfl, rfl⟩
        -- pen[1] = at + 1
        refine ⟨.int t, rfl, t, 1, rfl, rfl, .ref p, rfl, p, _, 1, 1, rfl, rfl, hp, rfl, ?_⟩
        -- pen[2] = spread(cell, at)
        refine ⟨.int c1, rfl, .int t, rfl, c1, t, rfl, t0, by omega, fun v' H3 w0 e3 => ?_⟩
        refine ⟨.ref p, rfl, p, [.ref a, .int (t + 1), .int v], 2, 2, rfl, rfl, e3 _ _ upd_same, rfl, ?_⟩
        exact hNX _ _ ⟨_, _, t + 1, v', rfl, upd_same, ((ExB.upd (ExB.refl p H'')).trans (Ex.b e3)).upd, by omega, by omega, w0⟩
      · exact hNX _ _ ⟨_, _, t, v, rfl, hp, ExB.refl p H, t0, by omega, v0⟩
    · rintro σ H' ⟨s2, s3, t', v', rfl, hp', eb, a0, a1, b0⟩
      have hS : SqL K H' p [.ref a, .int t', .int v'] := SqL.of hp'
      refine ⟨.ref p, rfl, p, _, 2, .int v', rfl, rfl, hS, rfl, .inl ⟨v', rfl, .int m, rfl, v', m, rfl, rfl, m0, ?_⟩⟩
      refine ⟨.ref p, rfl, p, _, 2, .int v', rfl, rfl, hS, rfl, .int m, rfl, v', m, rfl, rfl, ⟨by omega, by omega⟩, .ref p, rfl, p, _, 2, 2, rfl, rfl, hp', rfl, ?_⟩
      refine ⟨_, rfl, k _ _ (Int.emod_nonneg _ (by omega)) (Int.emod_lt_of_pos _ m0) eb.upd ⟨cs, t', _, upd_same, ?_, hne, a0, by omega, ?_, hlen⟩⟩
      · rw [upd_ne hne]
        exact eb _ _ hne ha
      · rw [Int.fdiv_eq_ediv_of_nonneg v' (by omega)]
        exact Int.ediv_nonneg b0 (by omega)
def spOne (K : PySem.W.Frag) : Sp := fun vs H Q _ => ∃ (p a s : Addr) (xs : List V) (N : Nat), vs = [.ref p, .ref s] ∧ Pen H p a N ∧ H s = some (.lst xs) ∧ s ≠ p ∧ 0 < xs.length ∧ xs.length < 1073741824 ∧ N ≤ 990 ∧ ∀ (x : V) (H' : Hp), x ∈ xs → ExB p H H' → Pen H' p a (N + 1) → Q x H'
theorem ok__law_one (T : Txt K mg) : FnOk P w K mg base CX0 3 T.d__law_one.a T.d__law_one.fd ["_law_pen", "_law_some"] (spOne K) := by
  refine T.d__law_one.F.ok sc__law_one (fun vs H Q E h => ?_) (fun cdv A outer s H vs Q E hr h => ?_)
  · obtain ⟨p, a, s, xs, N, rfl, _⟩ := h
    rfl
  · obtain ⟨p, a, s, xs, N, rfl, hp, hs, hsp, l0, l1, hN, k⟩ := h
    refine ⟨_, (pss_one (ps_ret (pe_ix ix_list (pv 1) (pe_call (ok__law_take T) (hr.mono (by decide)) (by rfl) T.d__law_take.g T.d__law_take.F.kp T.d__law_take.b .nil pass0 (pa_cons (pv 0) (pa_cons (pe_callB call_len_seq (by rfl) T.n_len (by decide +kernel) (pa_cons (pv 1) pa_nil)) pa_nil))) (fun _ _ => rfl)))), ?_⟩
    refine ⟨_, rfl, _, rfl, .ref s, rfl, s, xs, rfl, .inl (SqL.of hs), p, a, _, N, rfl, hp, by omega, by omega, hN, fun r H' r0 r1 eb hp' => ?_⟩
    have hk : r.toNat < xs.length := by omega
    have hx := atI_nat (List.getElem?_eq_getElem hk)
    rw [show ((r.toNat : Nat) : Int) = r by omega] at hx
    exact ⟨s, xs, r, _, rfl, rfl, SqL.of (eb _ _ hsp hs), hx, k _ H' (List.getElem_mem hk) eb hp'⟩
theorem cut_map (ms : List Int) (lo hi : Option Int) : cutV (ms.map V.int) lo hi = ((ms.drop (HT.sIx ms.length 0 lo)).take (HT.sIx ms.length ms.length hi - HT.sIx ms.length 0 lo)).map V.int := by
  unfold cutV
  rw [List.length_map, ← List.map_drop, ← List.map_take]
def spOpen (K : PySem.W.Frag) : Sp := fun vs H Q _ => ∃ (a : Addr) (ns : List Int), vs = [.ref a] ∧ SqL K H a (ns.map V.int) ∧ ns.length ≤ 63 ∧ ∀ p c H', Ex H H' → Pen H' p c 0 → H p = none → Q (.ref p) H'
theorem ok__law_open (T : Txt K mg) : FnOk P w K mg base CX0 1 T.d__law_open.a T.d__law_open.fd ["_law_script"] (spOpen K) := by
  refine T.d__law_open.F.ok sc__law_open (fun vs H Q E h => ?_) (fun cdv A outer s H vs Q E hr h => ?_)
  · obtain ⟨a, ns, rfl, _⟩ := h
    rfl
  · obtain ⟨a, ns, rfl, hS, hl, k⟩ := h
    refine ⟨_, (pss_cons (ps_set (i := 1) sc__law_open.nd rfl (Or.inl rfl) (pe_callTy call_list_of (by rfl) T.n_list (by decide +kernel) (pa_cons (pe_slice sl_list (pv 0) po_none (po_some pe_int)) pa_nil)))
      (pss_cons (ps_for PassesOwn.never rfl (pi_enum (by rfl) T.n_enumerate (pa_cons (pe_slice sl_list (pv 0) (po_some pe_int) (po_some pe_int)) pa_nil)) (pg_tup (by rfl) (pgs_cons (pg_name (i := 2) sc__law_open.nd rfl (Or.inl rfl)) (pgs_cons (pg_name (i := 3) sc__law_open.nd rfl (Or.inl rfl)) pgs_nil))) (pss_one (ps_asg (pe_op op_add (pe_ix ix_list (pv 1) (pe_op op_mod (pe_callTy call_int1 (by rfl) T.n_int (by decide +kernel) (pa_cons (pv 2) pa_nil)) pe_int) (fun _ _ => rfl)) (pv 3)) (pg_sub (pv 1) (pe_op op_mod (pe_callTy call_int1 (by rfl) T.n_int (by decide +kernel) (pa_cons (pv 2) pa_nil)) pe_int) set_list))))
      (pss_one (ps_ret (pe_lst (pa_cons (pv 1) (pa_cons pe_int (pa_cons pe_int pa_nil)))))))), ?_⟩
    -- cells = list(script[:12])
    have e0 : ∀ n : Nat, HT.sIx n 0 none = 0 := fun n => HT.sIx_none n 0
    have e12 : HT.sIx ns.length ns.length (some 12) = min 12 ns.length := HT.sIx_nat ns.length ns.length 12
    have e12' : HT.sIx ns.length 0 (some 12) = min 12 ns.length := HT.sIx_nat ns.length 0 12
    generalize hms : (ns.drop (HT.sIx ns.length 0 (some 12))).take (HT.sIx ns.length ns.length (some 63) - HT.sIx ns.length 0 (some 12)) = ms
    have cm : cutV (ns.map V.int) (some 12) (some 63) = ms.map V.int := by
      rw [cut_map, hms]
    have cc : cutV (ns.map V.int) none (some 12) = (ns.take (min 12 ns.length)).map V.int := by
      rw [cut_map, e0, e12, List.drop_zero, Nat.sub_zero]
    have hml : 0 < ms.length → 12 ≤ ns.length := fun z => by
      rw [← hms, List.length_take, List.length_drop, e12'] at z
      omega
    refine ⟨.ref a, rfl, 12, rfl, a, _, rfl, hS, fun p1 f1 => ?_⟩
    rw [cc]
    have x1 := Ex.new (o := .lst ((ns.take (min 12 ns.length)).map V.int)) f1
    refine ⟨p1, _, rfl, .inl (SqL.of upd_same), fun p2 f2 => ?_⟩
    have x2 := Ex.new (o := .lst ((ns.take (min 12 ns.length)).map V.int)) f2
    have n2 : H p2 = none := fresh_back x1 f2
    -- for k, cell in enumerate(script[12:63])
    refine ⟨.ref a, rfl, 12, rfl, 63, rfl, a, _, rfl, ex_l (x1.trans x2) hS, fun p3 f3 => ?_⟩
    rw [cm]
    have x3 := Ex.new (o := .lst (ms.map V.int)) f3
    have n32 : p2 ≠ p3 := fun z => by
      rw [← z, upd_same] at f3
      cases f3
    have n3 : H p3 = none := fresh_back (x1.trans x2) f3
    refine ⟨p3, _, rfl, SqL.of upd_same, ?_⟩
    refine ⟨fun i m σ H' => m = ms.length - i ∧ i ≤ ms.length ∧ ∃ (s2 s3 : Option V) (cs : List Int), σ = [some (.ref a), some (.ref p2), s2, s3] ∧ Ex H H' ∧ H' p3 = some (.lst (ms.map V.int)) ∧ H' p2 = some (.lst (cs.map V.int)) ∧ cs.length = min 12 ns.length,
      ⟨ms.length, by omega, Nat.zero_le _, none, none, ns.take (min 12 ns.length), rfl, (x1.trans x2).trans x3, upd_same, by rw [upd_ne n32]; exact upd_same, by rw [List.length_take]; omega⟩, ?_⟩
    rintro i m σ H' ⟨rfl, hi, s2, s3, cs, rfl, ex, h3, h2, hcl⟩
    by_cases hlt : i < ms.length
    · refine .inr ⟨⟨_, V.int ms[i], SqL.of h3, by rw [List.getElem?_map, List.getElem?_eq_getElem hlt]; rfl⟩, fun σ' H'' => ∃ (s2 s3 : Option V) (cs : List Int), σ' = [some (.ref a), some (.ref p2), s2, s3] ∧ Ex H H'' ∧ H'' p3 = some (.lst (ms.map V.int)) ∧ H'' p2 = some (.lst (cs.map V.int)) ∧ cs.length = min 12 ns.length, fun σ' H'' q => ⟨ms.length - (i + 1), by omega, rfl, hlt, q⟩, fun x H'' y => ?_⟩
      obtain ⟨t, z, rfl, ft, rfl, hz⟩ := y
      have ez : z = V.int ms[i] := by
        have := hz _ (SqL.of h3)
        rw [List.getElem?_map, List.getElem?_eq_getElem hlt] at this
        exact (Option.some.inj this).symm
      subst ez
      have nt2 : p2 ≠ t := ne_of_none h2 ft
      have nt3 : p3 ≠ t := ne_of_none h3 ft
      have x4 := Ex.new (o := .tup [.int (i : Nat), .int ms[i]]) ft
      have g2 := x4 _ _ h2
      have hc12 : cs.length = 12 := by
        have := hml (by omega)
        omega
      have z0 : 0 ≤ (i : Int) % 12 := Int.emod_nonneg _ (by decide)
      have z1 : (i : Int) % 12 < 12 := Int.emod_lt_of_pos _ (by decide)
      obtain ⟨c, hc⟩ := atI_map (ms := cs) z0 (by omega)
      refine ⟨t, _, rfl, SqT.of upd_same, rfl, _, _, rfl, _, _, rfl, rfl, ?_⟩
      -- cells[k % 12] = cells[k % 12] + cell
      refine ⟨_, rfl, _, rfl, .inl ⟨_, rfl, _, 12, rfl, rfl, (by decide : (0 : Int) < 12), p2, _, (i : Int) % 12, .int c, rfl, rfl, SqL.of g2, hc, _, rfl, c, ms[i], rfl, rfl, ?_⟩⟩
      refine ⟨_, rfl, _, rfl, .inl ⟨_, rfl, _, 12, rfl, rfl, (by decide : (0 : Int) < 12), p2, _, (i : Int) % 12, ((i : Int) % 12).toNat, rfl, rfl, g2, ?_, ?_⟩⟩
      · unfold ixN
        rw [if_pos z0, if_pos (by rw [List.length_map]; omega)]
      · refine ⟨_, _, cs.set ((i : Int) % 12).toNat (c + ms[i]), rfl, ?_, ?_, ?_, ?_⟩
        · intro b o hb
          rw [upd_ne (ne_of_none hb n2)]
          exact x4 _ _ (ex _ _ hb)
        · rw [upd_ne n32.symm]
          exact x4 _ _ h3
        · rw [upd_same, List.map_set]
        · rw [List.length_set]
          exact hcl
    · refine .inl ⟨⟨_, SqL.of h3, by rw [List.length_map]; omega⟩, ?_⟩
      -- return [cells, 0, 0]
      refine ⟨_, rfl, by show 3 ≤ sizeLine; decide, fun p4 f4 => ?_⟩
      have n4 : p2 ≠ p4 := ne_of_none h2 f4
      exact k p4 p2 _ (ex.trans (Ex.new f4)) ⟨cs, 0, 0, upd_same, by rw [upd_ne n4]; exact h2, n4, by omega, by omega, by omega, by omega⟩ (fresh_back ex f4)
end
/-! ### errors made, and asked of what kinds they are -/
section
variable {K : PySem.W.Frag} {σ : L2.St} {H H' : Hp} {te ta : TE} {v x : V} {C B CM f g : Addr} {nm nk : Str}
/-- errors of these classes, each with the value v -/
def ErrsAt (K : PySem.W.Frag) : List Addr → V → List V → Hp → Prop
  | [], _, [], _ => True
  | C :: Cs, v, x :: xs, H => ErrAt K C v x H ∧ ErrsAt K Cs v xs H
  | _, _, _, _ => False
theorem ErrAt.ex (e : Ex H H') (h : ErrAt K C v x H) : ErrAt K C v x H' := by
  obtain ⟨a, dx, kn, rfl, h1, h2⟩ := h
  exact ⟨a, dx, kn, rfl, e _ _ h1, e _ _ h2⟩
theorem ErrsAt.ex (e : Ex H H') : ∀ {Cs : List Addr} {xs : List V}, ErrsAt K Cs v xs H → ErrsAt K Cs v xs H'
  | [], [], _ => trivial
  | _ :: _, _ :: _, h => ⟨h.1.ex e, ErrsAt.ex e h.2⟩
theorem ErrsAt.len : ∀ {Cs : List Addr} {xs : List V}, ErrsAt K Cs v xs H → xs.length = Cs.length
  | [], [], _ => rfl
  | _ :: _, _ :: _, h => by rw [List.length_cons, List.length_cons, h.2.len]
theorem ErrsAt.at : ∀ {Cs : List Addr} {xs : List V} (i : Nat) {x : V}, ErrsAt K Cs v xs H → xs[i]? = some x → ∃ C, Cs[i]? = some C ∧ ErrAt K C v x H
  | [], [], i, x, _, e => by cases i <;> cases e
  | _ :: _, _ :: _, 0, x, h, e => by
    cases e
    exact ⟨_, rfl, h.1⟩
  | _ :: _, _ :: _, i + 1, x, h, e => ErrsAt.at i h.2 e
theorem ErrsAt.append : ∀ {Cs Ds : List Addr} {xs ys : List V}, ErrsAt K Cs v xs H → ErrsAt K Ds v ys H → ErrsAt K (Cs ++ Ds) v (xs ++ ys) H
  | [], _, [], _, _, h => h
  | _ :: _, _, _ :: _, _, h, h' => ⟨h.1, h.2.append h'⟩
theorem ErrAt.upd {p : Addr} {xs : List V} {o : HO} (hp : H p = some (.lst xs)) (h : ErrAt K C v x H) : ErrAt K C v x (upd H p o) := by
  obtain ⟨a, dx, kn, rfl, h1, h2⟩ := h
  have n1 : a ≠ p := fun z => by
    rw [z, hp] at h1
    cases (Option.some.inj h1)
  have n2 : dx ≠ p := fun z => by
    rw [z, hp] at h2
    cases (Option.some.inj h2)
  exact ⟨a, dx, kn, rfl, by rw [upd_ne n1]; exact h1, by rw [upd_ne n2]; exact h2⟩
theorem ErrsAt.upd {p : Addr} {zs : List V} {o : HO} (hp : H p = some (.lst zs)) : ∀ {Cs : List Addr} {xs : List V}, ErrsAt K Cs v xs H → ErrsAt K Cs v xs (L2.upd H p o)
  | [], [], _ => trivial
  | _ :: _, _ :: _, h => ⟨h.1.upd hp, ErrsAt.upd hp h.2⟩
theorem ep_mk {i : Nat} (hv : σ[i]? = some (some v)) : EvP (tMkV C (spInit C) (tCons (tVar i) tNil)) σ H (ErrAt K C v) := fun H1 e Q k =>
  ⟨v, hv, by show 1 ≤ 1000; decide, fun a ha => ⟨a, v, rfl, upd_same, fun dx kn H' h1 ne e1 e2 keep => ⟨rfl, k _ _ (fun b o hb => keep b o (ne_of_none hb ha) (by rw [upd_ne (ne_of_none hb ha)]; exact hb)) ⟨a, dx, kn, rfl, e1, e2⟩⟩⟩⟩
def EvEs (K : PySem.W.Frag) (Cs : List Addr) (v : V) (ta : TA) (σ : L2.St) (H : Hp) : Prop := ∀ H1, Ex H H1 → ∀ Q : List V → Hp → Prop, (∀ xs H2, Ex H1 H2 → ErrsAt K Cs v xs H2 → Q xs H2) → ta σ H1 Q
theorem es_nil : EvEs K [] v tNil σ H := fun H1 e Q k => k [] H1 (Ex.refl H1) trivial
theorem es_cons {tr : TA} {Cs : List Addr} (h : EvP te σ H (ErrAt K C v)) (hs : EvEs K Cs v tr σ H) : EvEs K (C :: Cs) v (tCons te tr) σ H := fun H1 e Q k =>
  h H1 e _ fun x H2 e2 q => hs H2 (e.trans e2) _ fun xs H3 e3 qs => k _ H3 (e2.trans e3) ⟨q.ex e3, qs⟩
/-- a list of them -/
def LstE (K : PySem.W.Frag) (Cs : List Addr) (v x : V) (H : Hp) : Prop := ∃ (l : Addr) (xs : List V), x = .ref l ∧ H l = some (.lst xs) ∧ ErrsAt K Cs v xs H
theorem LstE.ex {Cs : List Addr} (e : Ex H H') (h : LstE K Cs v x H) : LstE K Cs v x H' := by
  obtain ⟨l, xs, rfl, h1, h2⟩ := h
  exact ⟨l, xs, rfl, e _ _ h1, h2.ex e⟩
theorem le_lst {tr : TA} {Cs : List Addr} (h : EvEs K Cs v tr σ H) (hl : Cs.length ≤ 1000) : EvP (tLst tr) σ H (LstE K Cs v) := fun H1 e Q k =>
  h H1 e _ fun xs H2 e2 qs => ⟨Nat.le_of_lt (small1000 (by rw [qs.len]; exact hl)), fun l fl => k _ _ (e2.trans (Ex.new fl)) ⟨l, xs, rfl, upd_same, qs.ex (Ex.new fl)⟩⟩
theorem le_cat {tr : TA} {Cs Ds : List Addr} {i : Nat} (hi : σ[i]? = some (some x)) (hx : LstE K Cs v x H) (h : EvEs K Ds v tr σ H) (hl : Cs.length + Ds.length ≤ 900) : EvP (tOp rCat (tVar i) (tLst tr)) σ H (LstE K (Cs ++ Ds) v) := fun H1 e Q k => by
  obtain ⟨l, xs, rfl, h1, q1⟩ := hx
  refine ⟨_, hi, ?_⟩
  refine h H1 e _ fun ys H2 e2 q2 => ?_
  have l1 := q1.len
  have l2 := q2.len
  refine ⟨Nat.le_of_lt (small1000 (by omega)), fun m fm => ?_⟩
  have hl2 := e2 _ _ (e _ _ h1)
  have nl : l ≠ m := ne_of_none hl2 fm
  refine ⟨l, m, xs, ys, rfl, rfl, by rw [upd_ne nl]; exact hl2, upd_same, Nat.le_of_lt (small1000 (by omega)), fun r fr => ?_⟩
  have x2 := Ex.new (o := .lst ys) fm
  have x3 := Ex.new (o := .lst (xs ++ ys)) fr
  exact k _ _ (e2.trans (x2.trans x3)) ⟨r, xs ++ ys, rfl, upd_same, (q1.ex (e.trans (e2.trans (x2.trans x3)))).append (q2.ex (x2.trans x3))⟩
/-- isinstance of one of them -/
theorem ev_isX {i : Nat} {c : V} {cv : Value} {b : Bool} (hi : σ[i]? = some (some x)) (he : ErrAt K C v x H) (ec : ErrC K C) (hc : ∀ u, RelV c u → u = cv) (U : PySem.W.kitOne K (.ref C) cv = some b) : Ev (tCB (rIsX K) (tCons (tVar i) (tCons (tC c) tNil))) σ H (.bl b) := fun H1 e Q k => by
  obtain ⟨a, dx, kn, rfl, h1, h2⟩ := he
  exact ⟨_, hi, a, C, dx, _, c, cv, b, rfl, hc, ec, e _ _ h1, e _ _ h2, U, k H1 (Ex.refl _)⟩
theorem kit_any (a : ErrX K C CM f nm) (b : ErrX K B CM g nk) : PySem.W.kitOne K (.ref C) (.ref B) = some (decide (C = B)) := by
  by_cases e : C = B
  · subst e
    rw [decide_eq_true rfl]
    exact kit_one C
  · rw [decide_eq_false e]
    exact a.off b e
theorem ev_val {i : Nat} (hi : σ[i]? = some (some x)) (he : ErrAt K C v x H) (T : ErrX K C CM f nm) : Ev (tXo K "value" (tVar i)) σ H v := fun H1 e Q k => by
  obtain ⟨a, dx, kn, rfl, h1, h2⟩ := he
  exact ⟨_, hi, a, C, dx, _, v, rfl, T.xf, T.noV, e _ _ h1, e _ _ h2, rfl, k H1 (Ex.refl _)⟩
theorem el_cat2 {tr : TA} {i : Nat} {l : Addr} {xs ys : List V} (hi : σ[i]? = some (some (.ref l))) (hl : H l = some (.lst xs)) (h : EvA tr σ H ys) (hz : xs.length + ys.length ≤ 900) : EvL (tOp rCat (tVar i) (tLst tr)) σ H (xs ++ ys) := fun H1 e Q k => by
  refine ⟨_, hi, ?_⟩
  refine h H1 e _ fun H2 e2 => ?_
  refine ⟨Nat.le_of_lt (small1000 (by omega)), fun m fm => ?_⟩
  have hl2 := e2 _ _ (e _ _ hl)
  have nl : l ≠ m := ne_of_none hl2 fm
  refine ⟨l, m, xs, ys, rfl, rfl, by rw [upd_ne nl]; exact hl2, upd_same, Nat.le_of_lt (small1000 (by omega)), fun r fr => ?_⟩
  have x2 := Ex.new (o := .lst ys) fm
  have x3 := Ex.new (o := .lst (xs ++ ys)) fr
  exact k r _ (fresh_back (e2.trans x2) fr) (e2.trans (x2.trans x3)) upd_same
end
section
variable {P : Program} {w : World} {K : PySem.W.Frag} {mg : Str → Option Value} {base : Heap}
theorem ok_i_MixError (T : Txt K mg) : FnOk P w K mg base CX0 1 T.M.f T.M.fd ["self", "value"] (spInitM K) := by
  refine T.M.F.ok sc_i_MixError (fun vs H Q E h => ?_) (fun cdv A outer s H vs Q E hr h => ?_)
  · obtain ⟨C, a, v, nm, rfl, _⟩ := h
    rfl
  · obtain ⟨C, a, v, nm, rfl, ox, nv, nk, NM, ha, k⟩ := h
    refine ⟨_, pss_cons (ps_expr (pe_veinit (by rfl) T.n_ValueError T.v_VE (pa_cons (pv 0) (pa_cons pe_str pa_nil)))) (pss_cons (ps_ost (pv 0) (pv 1)) (pss_one (ps_ost (pv 0) (pe_nm (pv 0))))), ?_⟩
    refine ⟨_, rfl, a, C, _, rfl, by show 1 ≤ 1000; decide, ox, ha, ?_⟩
    refine ⟨v, rfl, .ref a, rfl, a, C, rfl, ox, nv, .inl ⟨ha, fun dx hdx ne => ?_⟩⟩
    have ed : (upd (upd H dx (exd dx [(("value" : Str), v)])) a (exo a C (some dx))) dx = some (exd dx [(("value" : Str), v)]) := by rw [upd_ne ne]; exact upd_same
    refine ⟨.ref a, rfl, a, C, dx, _, nm, rfl, NM, upd_same, ed, .ref a, rfl, a, C, rfl, ox, nk, .inr ⟨dx, _, upd_same, ed, by show 1 ≤ 900; decide, ?_⟩⟩
    refine k dx nm _ hdx ne (by rw [upd_ne ne.symm]; exact upd_same) upd_same fun b o hb h => ?_
    rw [upd_ne (ne_of_none h hdx), upd_ne hb, upd_ne (ne_of_none h hdx)]
    exact h
theorem ok_i_BadFraction (T : Txt K mg) : FnOk P w K mg base CX0 2 T.E_BadFraction.f T.E_BadFraction.fd ["self", "value"] (spInit T.E_BadFraction.C) := by
  refine T.E_BadFraction.F.ok sc_i_BadFraction (fun vs H Q E h => ?_) (fun cdv A outer s H vs Q E hr h => ?_)
  · obtain ⟨a, v, rfl, _⟩ := h
    rfl
  · obtain ⟨a, v, rfl, ha, k⟩ := h
    refine ⟨_, pss_one (ps_expr (pe_clsdef (by rfl) T.M.g T.M.rd T.M.ga T.M.fi T.M.kp (ok_i_MixError T) (hr.mono (by decide)) T.M.b pass0 (pa_cons (pv 0) (pa_cons (pv 1) pa_nil)))), ?_⟩
    exact ⟨_, rfl, _, rfl, T.E_BadFraction.C, a, v, _, rfl, T.E_BadFraction.x.oex, T.E_BadFraction.x.noV, T.E_BadFraction.x.noK, T.E_BadFraction.x.nm, ha, k⟩
theorem ok_i_BadPair (T : Txt K mg) : FnOk P w K mg base CX0 2 T.E_BadPair.f T.E_BadPair.fd ["self", "value"] (spInit T.E_BadPair.C) := by
  refine T.E_BadPair.F.ok sc_i_BadPair (fun vs H Q E h => ?_) (fun cdv A outer s H vs Q E hr h => ?_)
  · obtain ⟨a, v, rfl, _⟩ := h
    rfl
  · obtain ⟨a, v, rfl, ha, k⟩ := h
    refine ⟨_, pss_one (ps_expr (pe_clsdef (by rfl) T.M.g T.M.rd T.M.ga T.M.fi T.M.kp (ok_i_MixError T) (hr.mono (by decide)) T.M.b pass0 (pa_cons (pv 0) (pa_cons (pv 1) pa_nil)))), ?_⟩
    exact ⟨_, rfl, _, rfl, T.E_BadPair.C, a, v, _, rfl, T.E_BadPair.x.oex, T.E_BadPair.x.noV, T.E_BadPair.x.noK, T.E_BadPair.x.nm, ha, k⟩
theorem ok_i_BadPairs (T : Txt K mg) : FnOk P w K mg base CX0 2 T.E_BadPairs.f T.E_BadPairs.fd ["self", "value"] (spInit T.E_BadPairs.C) := by
  refine T.E_BadPairs.F.ok sc_i_BadPairs (fun vs H Q E h => ?_) (fun cdv A outer s H vs Q E hr h => ?_)
  · obtain ⟨a, v, rfl, _⟩ := h
    rfl
  · obtain ⟨a, v, rfl, ha, k⟩ := h
    refine ⟨_, pss_one (ps_expr (pe_clsdef (by rfl) T.M.g T.M.rd T.M.ga T.M.fi T.M.kp (ok_i_MixError T) (hr.mono (by decide)) T.M.b pass0 (pa_cons (pv 0) (pa_cons (pv 1) pa_nil)))), ?_⟩
    exact ⟨_, rfl, _, rfl, T.E_BadPairs.C, a, v, _, rfl, T.E_BadPairs.x.oex, T.E_BadPairs.x.noV, T.E_BadPairs.x.noK, T.E_BadPairs.x.nm, ha, k⟩
theorem ok_i_BadTerm (T : Txt K mg) : FnOk P w K mg base CX0 2 T.E_BadTerm.f T.E_BadTerm.fd ["self", "value"] (spInit T.E_BadTerm.C) := by
  refine T.E_BadTerm.F.ok sc_i_BadTerm (fun vs H Q E h => ?_) (fun cdv A outer s H vs Q E hr h => ?_)
  · obtain ⟨a, v, rfl, _⟩ := h
    rfl
  · obtain ⟨a, v, rfl, ha, k⟩ := h
    refine ⟨_, pss_one (ps_expr (pe_clsdef (by rfl) T.M.g T.M.rd T.M.ga T.M.fi T.M.kp (ok_i_MixError T) (hr.mono (by decide)) T.M.b pass0 (pa_cons (pv 0) (pa_cons (pv 1) pa_nil)))), ?_⟩
    exact ⟨_, rfl, _, rfl, T.E_BadTerm.C, a, v, _, rfl, T.E_BadTerm.x.oex, T.E_BadTerm.x.noV, T.E_BadTerm.x.noK, T.E_BadTerm.x.nm, ha, k⟩
theorem ok_i_BadMix (T : Txt K mg) : FnOk P w K mg base CX0 2 T.E_BadMix.f T.E_BadMix.fd ["self", "value"] (spInit T.E_BadMix.C) := by
  refine T.E_BadMix.F.ok sc_i_BadMix (fun vs H Q E h => ?_) (fun cdv A outer s H vs Q E hr h => ?_)
  · obtain ⟨a, v, rfl, _⟩ := h
    rfl
  · obtain ⟨a, v, rfl, ha, k⟩ := h
    refine ⟨_, pss_one (ps_expr (pe_clsdef (by rfl) T.M.g T.M.rd T.M.ga T.M.fi T.M.kp (ok_i_MixError T) (hr.mono (by decide)) T.M.b pass0 (pa_cons (pv 0) (pa_cons (pv 1) pa_nil)))), ?_⟩
    exact ⟨_, rfl, _, rfl, T.E_BadMix.C, a, v, _, rfl, T.E_BadMix.x.oex, T.E_BadMix.x.noV, T.E_BadMix.x.noK, T.E_BadMix.x.nm, ha, k⟩
theorem ok_i_BadPlace (T : Txt K mg) : FnOk P w K mg base CX0 2 T.E_BadPlace.f T.E_BadPlace.fd ["self", "value"] (spInit T.E_BadPlace.C) := by
  refine T.E_BadPlace.F.ok sc_i_BadPlace (fun vs H Q E h => ?_) (fun cdv A outer s H vs Q E hr h => ?_)
  · obtain ⟨a, v, rfl, _⟩ := h
    rfl
  · obtain ⟨a, v, rfl, ha, k⟩ := h
    refine ⟨_, pss_one (ps_expr (pe_clsdef (by rfl) T.M.g T.M.rd T.M.ga T.M.fi T.M.kp (ok_i_MixError T) (hr.mono (by decide)) T.M.b pass0 (pa_cons (pv 0) (pa_cons (pv 1) pa_nil)))), ?_⟩
    exact ⟨_, rfl, _, rfl, T.E_BadPlace.C, a, v, _, rfl, T.E_BadPlace.x.oex, T.E_BadPlace.x.noV, T.E_BadPlace.x.noK, T.E_BadPlace.x.nm, ha, k⟩
theorem ok_i_BadText (T : Txt K mg) : FnOk P w K mg base CX0 2 T.E_BadText.f T.E_BadText.fd ["self", "value"] (spInit T.E_BadText.C) := by
  refine T.E_BadText.F.ok sc_i_BadText (fun vs H Q E h => ?_) (fun cdv A outer s H vs Q E hr h => ?_)
  · obtain ⟨a, v, rfl, _⟩ := h
    rfl
  · obtain ⟨a, v, rfl, ha, k⟩ := h
    refine ⟨_, pss_one (ps_expr (pe_clsdef (by rfl) T.M.g T.M.rd T.M.ga T.M.fi T.M.kp (ok_i_MixError T) (hr.mono (by decide)) T.M.b pass0 (pa_cons (pv 0) (pa_cons (pv 1) pa_nil)))), ?_⟩
    exact ⟨_, rfl, _, rfl, T.E_BadText.C, a, v, _, rfl, T.E_BadText.x.oex, T.E_BadText.x.noV, T.E_BadText.x.noK, T.E_BadText.x.nm, ha, k⟩
theorem ok_i_BadLadder (T : Txt K mg) : FnOk P w K mg base CX0 2 T.E_BadLadder.f T.E_BadLadder.fd ["self", "value"] (spInit T.E_BadLadder.C) := by
  refine T.E_BadLadder.F.ok sc_i_BadLadder (fun vs H Q E h => ?_) (fun cdv A outer s H vs Q E hr h => ?_)
  · obtain ⟨a, v, rfl, _⟩ := h
    rfl
  · obtain ⟨a, v, rfl, ha, k⟩ := h
    refine ⟨_, pss_one (ps_expr (pe_clsdef (by rfl) T.M.g T.M.rd T.M.ga T.M.fi T.M.kp (ok_i_MixError T) (hr.mono (by decide)) T.M.b pass0 (pa_cons (pv 0) (pa_cons (pv 1) pa_nil)))), ?_⟩
    exact ⟨_, rfl, _, rfl, T.E_BadLadder.C, a, v, _, rfl, T.E_BadLadder.x.oex, T.E_BadLadder.x.noV, T.E_BadLadder.x.noK, T.E_BadLadder.x.nm, ha, k⟩
theorem ok_i_BadLadders (T : Txt K mg) : FnOk P w K mg base CX0 2 T.E_BadLadders.f T.E_BadLadders.fd ["self", "value"] (spInit T.E_BadLadders.C) := by
  refine T.E_BadLadders.F.ok sc_i_BadLadders (fun vs H Q E h => ?_) (fun cdv A outer s H vs Q E hr h => ?_)
  · obtain ⟨a, v, rfl, _⟩ := h
    rfl
  · obtain ⟨a, v, rfl, ha, k⟩ := h
    refine ⟨_, pss_one (ps_expr (pe_clsdef (by rfl) T.M.g T.M.rd T.M.ga T.M.fi T.M.kp (ok_i_MixError T) (hr.mono (by decide)) T.M.b pass0 (pa_cons (pv 0) (pa_cons (pv 1) pa_nil)))), ?_⟩
    exact ⟨_, rfl, _, rfl, T.E_BadLadders.C, a, v, _, rfl, T.E_BadLadders.x.oex, T.E_BadLadders.x.noV, T.E_BadLadders.x.noK, T.E_BadLadders.x.nm, ha, k⟩
theorem ok_i_NoFrame (T : Txt K mg) : FnOk P w K mg base CX0 2 T.E_NoFrame.f T.E_NoFrame.fd ["self", "value"] (spInit T.E_NoFrame.C) := by
  refine T.E_NoFrame.F.ok sc_i_NoFrame (fun vs H Q E h => ?_) (fun cdv A outer s H vs Q E hr h => ?_)
  · obtain ⟨a, v, rfl, _⟩ := h
    rfl
  · obtain ⟨a, v, rfl, ha, k⟩ := h
    refine ⟨_, pss_one (ps_expr (pe_clsdef (by rfl) T.M.g T.M.rd T.M.ga T.M.fi T.M.kp (ok_i_MixError T) (hr.mono (by decide)) T.M.b pass0 (pa_cons (pv 0) (pa_cons (pv 1) pa_nil)))), ?_⟩
    exact ⟨_, rfl, _, rfl, T.E_NoFrame.C, a, v, _, rfl, T.E_NoFrame.x.oex, T.E_NoFrame.x.noV, T.E_NoFrame.x.noK, T.E_NoFrame.x.nm, ha, k⟩
theorem ok_i_BadHabit (T : Txt K mg) : FnOk P w K mg base CX0 2 T.E_BadHabit.f T.E_BadHabit.fd ["self", "value"] (spInit T.E_BadHabit.C) := by
  refine T.E_BadHabit.F.ok sc_i_BadHabit (fun vs H Q E h => ?_) (fun cdv A outer s H vs Q E hr h => ?_)
  · obtain ⟨a, v, rfl, _⟩ := h
    rfl
  · obtain ⟨a, v, rfl, ha, k⟩ := h
    refine ⟨_, pss_one (ps_expr (pe_clsdef (by rfl) T.M.g T.M.rd T.M.ga T.M.fi T.M.kp (ok_i_MixError T) (hr.mono (by decide)) T.M.b pass0 (pa_cons (pv 0) (pa_cons (pv 1) pa_nil)))), ?_⟩
    exact ⟨_, rfl, _, rfl, T.E_BadHabit.C, a, v, _, rfl, T.E_BadHabit.x.oex, T.E_BadHabit.x.noV, T.E_BadHabit.x.noK, T.E_BadHabit.x.nm, ha, k⟩
theorem ok_i_BadChoice (T : Txt K mg) : FnOk P w K mg base CX0 2 T.E_BadChoice.f T.E_BadChoice.fd ["self", "value"] (spInit T.E_BadChoice.C) := by
  refine T.E_BadChoice.F.ok sc_i_BadChoice (fun vs H Q E h => ?_) (fun cdv A outer s H vs Q E hr h => ?_)
  · obtain ⟨a, v, rfl, _⟩ := h
    rfl
  · obtain ⟨a, v, rfl, ha, k⟩ := h
    refine ⟨_, pss_one (ps_expr (pe_clsdef (by rfl) T.M.g T.M.rd T.M.ga T.M.fi T.M.kp (ok_i_MixError T) (hr.mono (by decide)) T.M.b pass0 (pa_cons (pv 0) (pa_cons (pv 1) pa_nil)))), ?_⟩
    exact ⟨_, rfl, _, rfl, T.E_BadChoice.C, a, v, _, rfl, T.E_BadChoice.x.oex, T.E_BadChoice.x.noV, T.E_BadChoice.x.noK, T.E_BadChoice.x.nm, ha, k⟩
theorem ok_i_BadCourse (T : Txt K mg) : FnOk P w K mg base CX0 2 T.E_BadCourse.f T.E_BadCourse.fd ["self", "value"] (spInit T.E_BadCourse.C) := by
  refine T.E_BadCourse.F.ok sc_i_BadCourse (fun vs H Q E h => ?_) (fun cdv A outer s H vs Q E hr h => ?_)
  · obtain ⟨a, v, rfl, _⟩ := h
    rfl
  · obtain ⟨a, v, rfl, ha, k⟩ := h
    refine ⟨_, pss_one (ps_expr (pe_clsdef (by rfl) T.M.g T.M.rd T.M.ga T.M.fi T.M.kp (ok_i_MixError T) (hr.mono (by decide)) T.M.b pass0 (pa_cons (pv 0) (pa_cons (pv 1) pa_nil)))), ?_⟩
    exact ⟨_, rfl, _, rfl, T.E_BadCourse.C, a, v, _, rfl, T.E_BadCourse.x.oex, T.E_BadCourse.x.noV, T.E_BadCourse.x.noK, T.E_BadCourse.x.nm, ha, k⟩
theorem ok_i_BadTerms (T : Txt K mg) : FnOk P w K mg base CX0 2 T.E_BadTerms.f T.E_BadTerms.fd ["self", "value"] (spInit T.E_BadTerms.C) := by
  refine T.E_BadTerms.F.ok sc_i_BadTerms (fun vs H Q E h => ?_) (fun cdv A outer s H vs Q E hr h => ?_)
  · obtain ⟨a, v, rfl, _⟩ := h
    rfl
  · obtain ⟨a, v, rfl, ha, k⟩ := h
    refine ⟨_, pss_one (ps_expr (pe_clsdef (by rfl) T.M.g T.M.rd T.M.ga T.M.fi T.M.kp (ok_i_MixError T) (hr.mono (by decide)) T.M.b pass0 (pa_cons (pv 0) (pa_cons (pv 1) pa_nil)))), ?_⟩
    exact ⟨_, rfl, _, rfl, T.E_BadTerms.C, a, v, _, rfl, T.E_BadTerms.x.oex, T.E_BadTerms.x.noV, T.E_BadTerms.x.noK, T.E_BadTerms.x.nm, ha, k⟩
theorem ok_i_NoFit (T : Txt K mg) : FnOk P w K mg base CX0 2 T.E_NoFit.f T.E_NoFit.fd ["self", "value"] (spInit T.E_NoFit.C) := by
  refine T.E_NoFit.F.ok sc_i_NoFit (fun vs H Q E h => ?_) (fun cdv A outer s H vs Q E hr h => ?_)
  · obtain ⟨a, v, rfl, _⟩ := h
    rfl
  · obtain ⟨a, v, rfl, ha, k⟩ := h
    refine ⟨_, pss_one (ps_expr (pe_clsdef (by rfl) T.M.g T.M.rd T.M.ga T.M.fi T.M.kp (ok_i_MixError T) (hr.mono (by decide)) T.M.b pass0 (pa_cons (pv 0) (pa_cons (pv 1) pa_nil)))), ?_⟩
    exact ⟨_, rfl, _, rfl, T.E_NoFit.C, a, v, _, rfl, T.E_NoFit.x.oex, T.E_NoFit.x.noV, T.E_NoFit.x.noK, T.E_NoFit.x.nm, ha, k⟩
theorem ok_i_NoCompany (T : Txt K mg) : FnOk P w K mg base CX0 2 T.E_NoCompany.f T.E_NoCompany.fd ["self", "value"] (spInit T.E_NoCompany.C) := by
  refine T.E_NoCompany.F.ok sc_i_NoCompany (fun vs H Q E h => ?_) (fun cdv A outer s H vs Q E hr h => ?_)
  · obtain ⟨a, v, rfl, _⟩ := h
    rfl
  · obtain ⟨a, v, rfl, ha, k⟩ := h
    refine ⟨_, pss_one (ps_expr (pe_clsdef (by rfl) T.M.g T.M.rd T.M.ga T.M.fi T.M.kp (ok_i_MixError T) (hr.mono (by decide)) T.M.b pass0 (pa_cons (pv 0) (pa_cons (pv 1) pa_nil)))), ?_⟩
    exact ⟨_, rfl, _, rfl, T.E_NoCompany.C, a, v, _, rfl, T.E_NoCompany.x.oex, T.E_NoCompany.x.noV, T.E_NoCompany.x.noK, T.E_NoCompany.x.nm, ha, k⟩
theorem ok_i_BadWays (T : Txt K mg) : FnOk P w K mg base CX0 2 T.E_BadWays.f T.E_BadWays.fd ["self", "value"] (spInit T.E_BadWays.C) := by
  refine T.E_BadWays.F.ok sc_i_BadWays (fun vs H Q E h => ?_) (fun cdv A outer s H vs Q E hr h => ?_)
  · obtain ⟨a, v, rfl, _⟩ := h
    rfl
  · obtain ⟨a, v, rfl, ha, k⟩ := h
    refine ⟨_, pss_one (ps_expr (pe_clsdef (by rfl) T.M.g T.M.rd T.M.ga T.M.fi T.M.kp (ok_i_MixError T) (hr.mono (by decide)) T.M.b pass0 (pa_cons (pv 0) (pa_cons (pv 1) pa_nil)))), ?_⟩
    exact ⟨_, rfl, _, rfl, T.E_BadWays.C, a, v, _, rfl, T.E_BadWays.x.oex, T.E_BadWays.x.noV, T.E_BadWays.x.noK, T.E_BadWays.x.nm, ha, k⟩
theorem ok_i_BadNumber (T : Txt K mg) : FnOk P w K mg base CX0 2 T.E_BadNumber.f T.E_BadNumber.fd ["self", "value"] (spInit T.E_BadNumber.C) := by
  refine T.E_BadNumber.F.ok sc_i_BadNumber (fun vs H Q E h => ?_) (fun cdv A outer s H vs Q E hr h => ?_)
  · obtain ⟨a, v, rfl, _⟩ := h
    rfl
  · obtain ⟨a, v, rfl, ha, k⟩ := h
    refine ⟨_, pss_one (ps_expr (pe_clsdef (by rfl) T.M.g T.M.rd T.M.ga T.M.fi T.M.kp (ok_i_MixError T) (hr.mono (by decide)) T.M.b pass0 (pa_cons (pv 0) (pa_cons (pv 1) pa_nil)))), ?_⟩
    exact ⟨_, rfl, _, rfl, T.E_BadNumber.C, a, v, _, rfl, T.E_BadNumber.x.oex, T.E_BadNumber.x.noV, T.E_BadNumber.x.noK, T.E_BadNumber.x.nm, ha, k⟩
theorem ok_i_BadForest (T : Txt K mg) : FnOk P w K mg base CX0 2 T.E_BadForest.f T.E_BadForest.fd ["self", "value"] (spInit T.E_BadForest.C) := by
  refine T.E_BadForest.F.ok sc_i_BadForest (fun vs H Q E h => ?_) (fun cdv A outer s H vs Q E hr h => ?_)
  · obtain ⟨a, v, rfl, _⟩ := h
    rfl
  · obtain ⟨a, v, rfl, ha, k⟩ := h
    refine ⟨_, pss_one (ps_expr (pe_clsdef (by rfl) T.M.g T.M.rd T.M.ga T.M.fi T.M.kp (ok_i_MixError T) (hr.mono (by decide)) T.M.b pass0 (pa_cons (pv 0) (pa_cons (pv 1) pa_nil)))), ?_⟩
    exact ⟨_, rfl, _, rfl, T.E_BadForest.C, a, v, _, rfl, T.E_BadForest.x.oex, T.E_BadForest.x.noV, T.E_BadForest.x.noK, T.E_BadForest.x.nm, ha, k⟩
theorem ok_i_BadOrder (T : Txt K mg) : FnOk P w K mg base CX0 2 T.E_BadOrder.f T.E_BadOrder.fd ["self", "value"] (spInit T.E_BadOrder.C) := by
  refine T.E_BadOrder.F.ok sc_i_BadOrder (fun vs H Q E h => ?_) (fun cdv A outer s H vs Q E hr h => ?_)
  · obtain ⟨a, v, rfl, _⟩ := h
    rfl
  · obtain ⟨a, v, rfl, ha, k⟩ := h
    refine ⟨_, pss_one (ps_expr (pe_clsdef (by rfl) T.M.g T.M.rd T.M.ga T.M.fi T.M.kp (ok_i_MixError T) (hr.mono (by decide)) T.M.b pass0 (pa_cons (pv 0) (pa_cons (pv 1) pa_nil)))), ?_⟩
    exact ⟨_, rfl, _, rfl, T.E_BadOrder.C, a, v, _, rfl, T.E_BadOrder.x.oex, T.E_BadOrder.x.noV, T.E_BadOrder.x.noK, T.E_BadOrder.x.nm, ha, k⟩
theorem ok_i_BadJoin (T : Txt K mg) : FnOk P w K mg base CX0 2 T.E_BadJoin.f T.E_BadJoin.fd ["self", "value"] (spInit T.E_BadJoin.C) := by
  refine T.E_BadJoin.F.ok sc_i_BadJoin (fun vs H Q E h => ?_) (fun cdv A outer s H vs Q E hr h => ?_)
  · obtain ⟨a, v, rfl, _⟩ := h
    rfl
  · obtain ⟨a, v, rfl, ha, k⟩ := h
    refine ⟨_, pss_one (ps_expr (pe_clsdef (by rfl) T.M.g T.M.rd T.M.ga T.M.fi T.M.kp (ok_i_MixError T) (hr.mono (by decide)) T.M.b pass0 (pa_cons (pv 0) (pa_cons (pv 1) pa_nil)))), ?_⟩
    exact ⟨_, rfl, _, rfl, T.E_BadJoin.C, a, v, _, rfl, T.E_BadJoin.x.oex, T.E_BadJoin.x.noV, T.E_BadJoin.x.noK, T.E_BadJoin.x.nm, ha, k⟩
theorem ok_i_BadRow (T : Txt K mg) : FnOk P w K mg base CX0 2 T.E_BadRow.f T.E_BadRow.fd ["self", "value"] (spInit T.E_BadRow.C) := by
  refine T.E_BadRow.F.ok sc_i_BadRow (fun vs H Q E h => ?_) (fun cdv A outer s H vs Q E hr h => ?_)
  · obtain ⟨a, v, rfl, _⟩ := h
    rfl
  · obtain ⟨a, v, rfl, ha, k⟩ := h
    refine ⟨_, pss_one (ps_expr (pe_clsdef (by rfl) T.M.g T.M.rd T.M.ga T.M.fi T.M.kp (ok_i_MixError T) (hr.mono (by decide)) T.M.b pass0 (pa_cons (pv 0) (pa_cons (pv 1) pa_nil)))), ?_⟩
    exact ⟨_, rfl, _, rfl, T.E_BadRow.C, a, v, _, rfl, T.E_BadRow.x.oex, T.E_BadRow.x.noV, T.E_BadRow.x.noK, T.E_BadRow.x.nm, ha, k⟩
theorem ok_i_BadTable (T : Txt K mg) : FnOk P w K mg base CX0 2 T.E_BadTable.f T.E_BadTable.fd ["self", "value"] (spInit T.E_BadTable.C) := by
  refine T.E_BadTable.F.ok sc_i_BadTable (fun vs H Q E h => ?_) (fun cdv A outer s H vs Q E hr h => ?_)
  · obtain ⟨a, v, rfl, _⟩ := h
    rfl
  · obtain ⟨a, v, rfl, ha, k⟩ := h
    refine ⟨_, pss_one (ps_expr (pe_clsdef (by rfl) T.M.g T.M.rd T.M.ga T.M.fi T.M.kp (ok_i_MixError T) (hr.mono (by decide)) T.M.b pass0 (pa_cons (pv 0) (pa_cons (pv 1) pa_nil)))), ?_⟩
    exact ⟨_, rfl, _, rfl, T.E_BadTable.C, a, v, _, rfl, T.E_BadTable.x.oex, T.E_BadTable.x.noV, T.E_BadTable.x.noK, T.E_BadTable.x.nm, ha, k⟩
theorem ok_i_BadBox (T : Txt K mg) : FnOk P w K mg base CX0 2 T.E_BadBox.f T.E_BadBox.fd ["self", "value"] (spInit T.E_BadBox.C) := by
  refine T.E_BadBox.F.ok sc_i_BadBox (fun vs H Q E h => ?_) (fun cdv A outer s H vs Q E hr h => ?_)
  · obtain ⟨a, v, rfl, _⟩ := h
    rfl
  · obtain ⟨a, v, rfl, ha, k⟩ := h
    refine ⟨_, pss_one (ps_expr (pe_clsdef (by rfl) T.M.g T.M.rd T.M.ga T.M.fi T.M.kp (ok_i_MixError T) (hr.mono (by decide)) T.M.b pass0 (pa_cons (pv 0) (pa_cons (pv 1) pa_nil)))), ?_⟩
    exact ⟨_, rfl, _, rfl, T.E_BadBox.C, a, v, _, rfl, T.E_BadBox.x.oex, T.E_BadBox.x.noV, T.E_BadBox.x.noK, T.E_BadBox.x.nm, ha, k⟩
theorem ok_i_BadBoxes (T : Txt K mg) : FnOk P w K mg base CX0 2 T.E_BadBoxes.f T.E_BadBoxes.fd ["self", "value"] (spInit T.E_BadBoxes.C) := by
  refine T.E_BadBoxes.F.ok sc_i_BadBoxes (fun vs H Q E h => ?_) (fun cdv A outer s H vs Q E hr h => ?_)
  · obtain ⟨a, v, rfl, _⟩ := h
    rfl
  · obtain ⟨a, v, rfl, ha, k⟩ := h
    refine ⟨_, pss_one (ps_expr (pe_clsdef (by rfl) T.M.g T.M.rd T.M.ga T.M.fi T.M.kp (ok_i_MixError T) (hr.mono (by decide)) T.M.b pass0 (pa_cons (pv 0) (pa_cons (pv 1) pa_nil)))), ?_⟩
    exact ⟨_, rfl, _, rfl, T.E_BadBoxes.C, a, v, _, rfl, T.E_BadBoxes.x.oex, T.E_BadBoxes.x.noV, T.E_BadBoxes.x.noK, T.E_BadBoxes.x.nm, ha, k⟩
theorem ok_i_BadSeen (T : Txt K mg) : FnOk P w K mg base CX0 2 T.E_BadSeen.f T.E_BadSeen.fd ["self", "value"] (spInit T.E_BadSeen.C) := by
  refine T.E_BadSeen.F.ok sc_i_BadSeen (fun vs H Q E h => ?_) (fun cdv A outer s H vs Q E hr h => ?_)
  · obtain ⟨a, v, rfl, _⟩ := h
    rfl
  · obtain ⟨a, v, rfl, ha, k⟩ := h
    refine ⟨_, pss_one (ps_expr (pe_clsdef (by rfl) T.M.g T.M.rd T.M.ga T.M.fi T.M.kp (ok_i_MixError T) (hr.mono (by decide)) T.M.b pass0 (pa_cons (pv 0) (pa_cons (pv 1) pa_nil)))), ?_⟩
    exact ⟨_, rfl, _, rfl, T.E_BadSeen.C, a, v, _, rfl, T.E_BadSeen.x.oex, T.E_BadSeen.x.noV, T.E_BadSeen.x.noK, T.E_BadSeen.x.nm, ha, k⟩
theorem ok_i_BadProject (T : Txt K mg) : FnOk P w K mg base CX0 2 T.E_BadProject.f T.E_BadProject.fd ["self", "value"] (spInit T.E_BadProject.C) := by
  refine T.E_BadProject.F.ok sc_i_BadProject (fun vs H Q E h => ?_) (fun cdv A outer s H vs Q E hr h => ?_)
  · obtain ⟨a, v, rfl, _⟩ := h
    rfl
  · obtain ⟨a, v, rfl, ha, k⟩ := h
    refine ⟨_, pss_one (ps_expr (pe_clsdef (by rfl) T.M.g T.M.rd T.M.ga T.M.fi T.M.kp (ok_i_MixError T) (hr.mono (by decide)) T.M.b pass0 (pa_cons (pv 0) (pa_cons (pv 1) pa_nil)))), ?_⟩
    exact ⟨_, rfl, _, rfl, T.E_BadProject.C, a, v, _, rfl, T.E_BadProject.x.oex, T.E_BadProject.x.noV, T.E_BadProject.x.noK, T.E_BadProject.x.nm, ha, k⟩
theorem ok_i_BadShare (T : Txt K mg) : FnOk P w K mg base CX0 2 T.E_BadShare.f T.E_BadShare.fd ["self", "value"] (spInit T.E_BadShare.C) := by
  refine T.E_BadShare.F.ok sc_i_BadShare (fun vs H Q E h => ?_) (fun cdv A outer s H vs Q E hr h => ?_)
  · obtain ⟨a, v, rfl, _⟩ := h
    rfl
  · obtain ⟨a, v, rfl, ha, k⟩ := h
    refine ⟨_, pss_one (ps_expr (pe_clsdef (by rfl) T.M.g T.M.rd T.M.ga T.M.fi T.M.kp (ok_i_MixError T) (hr.mono (by decide)) T.M.b pass0 (pa_cons (pv 0) (pa_cons (pv 1) pa_nil)))), ?_⟩
    exact ⟨_, rfl, _, rfl, T.E_BadShare.C, a, v, _, rfl, T.E_BadShare.x.oex, T.E_BadShare.x.noV, T.E_BadShare.x.noK, T.E_BadShare.x.nm, ha, k⟩
theorem ok_i_BadYard (T : Txt K mg) : FnOk P w K mg base CX0 2 T.E_BadYard.f T.E_BadYard.fd ["self", "value"] (spInit T.E_BadYard.C) := by
  refine T.E_BadYard.F.ok sc_i_BadYard (fun vs H Q E h => ?_) (fun cdv A outer s H vs Q E hr h => ?_)
  · obtain ⟨a, v, rfl, _⟩ := h
    rfl
  · obtain ⟨a, v, rfl, ha, k⟩ := h
    refine ⟨_, pss_one (ps_expr (pe_clsdef (by rfl) T.M.g T.M.rd T.M.ga T.M.fi T.M.kp (ok_i_MixError T) (hr.mono (by decide)) T.M.b pass0 (pa_cons (pv 0) (pa_cons (pv 1) pa_nil)))), ?_⟩
    exact ⟨_, rfl, _, rfl, T.E_BadYard.C, a, v, _, rfl, T.E_BadYard.x.oex, T.E_BadYard.x.noV, T.E_BadYard.x.noK, T.E_BadYard.x.nm, ha, k⟩
theorem ok_i_BadPlan (T : Txt K mg) : FnOk P w K mg base CX0 2 T.E_BadPlan.f T.E_BadPlan.fd ["self", "value"] (spInit T.E_BadPlan.C) := by
  refine T.E_BadPlan.F.ok sc_i_BadPlan (fun vs H Q E h => ?_) (fun cdv A outer s H vs Q E hr h => ?_)
  · obtain ⟨a, v, rfl, _⟩ := h
    rfl
  · obtain ⟨a, v, rfl, ha, k⟩ := h
    refine ⟨_, pss_one (ps_expr (pe_clsdef (by rfl) T.M.g T.M.rd T.M.ga T.M.fi T.M.kp (ok_i_MixError T) (hr.mono (by decide)) T.M.b pass0 (pa_cons (pv 0) (pa_cons (pv 1) pa_nil)))), ?_⟩
    exact ⟨_, rfl, _, rfl, T.E_BadPlan.C, a, v, _, rfl, T.E_BadPlan.x.oex, T.E_BadPlan.x.noV, T.E_BadPlan.x.noK, T.E_BadPlan.x.nm, ha, k⟩
theorem ok_i_BadWorked (T : Txt K mg) : FnOk P w K mg base CX0 2 T.E_BadWorked.f T.E_BadWorked.fd ["self", "value"] (spInit T.E_BadWorked.C) := by
  refine T.E_BadWorked.F.ok sc_i_BadWorked (fun vs H Q E h => ?_) (fun cdv A outer s H vs Q E hr h => ?_)
  · obtain ⟨a, v, rfl, _⟩ := h
    rfl
  · obtain ⟨a, v, rfl, ha, k⟩ := h
    refine ⟨_, pss_one (ps_expr (pe_clsdef (by rfl) T.M.g T.M.rd T.M.ga T.M.fi T.M.kp (ok_i_MixError T) (hr.mono (by decide)) T.M.b pass0 (pa_cons (pv 0) (pa_cons (pv 1) pa_nil)))), ?_⟩
    exact ⟨_, rfl, _, rfl, T.E_BadWorked.C, a, v, _, rfl, T.E_BadWorked.x.oex, T.E_BadWorked.x.noV, T.E_BadWorked.x.noK, T.E_BadWorked.x.nm, ha, k⟩
theorem ok_i_BadGroup (T : Txt K mg) : FnOk P w K mg base CX0 2 T.E_BadGroup.f T.E_BadGroup.fd ["self", "value"] (spInit T.E_BadGroup.C) := by
  refine T.E_BadGroup.F.ok sc_i_BadGroup (fun vs H Q E h => ?_) (fun cdv A outer s H vs Q E hr h => ?_)
  · obtain ⟨a, v, rfl, _⟩ := h
    rfl
  · obtain ⟨a, v, rfl, ha, k⟩ := h
    refine ⟨_, pss_one (ps_expr (pe_clsdef (by rfl) T.M.g T.M.rd T.M.ga T.M.fi T.M.kp (ok_i_MixError T) (hr.mono (by decide)) T.M.b pass0 (pa_cons (pv 0) (pa_cons (pv 1) pa_nil)))), ?_⟩
    exact ⟨_, rfl, _, rfl, T.E_BadGroup.C, a, v, _, rfl, T.E_BadGroup.x.oex, T.E_BadGroup.x.noV, T.E_BadGroup.x.noK, T.E_BadGroup.x.nm, ha, k⟩
theorem ok_i_BadGroupOrder (T : Txt K mg) : FnOk P w K mg base CX0 2 T.E_BadGroupOrder.f T.E_BadGroupOrder.fd ["self", "value"] (spInit T.E_BadGroupOrder.C) := by
  refine T.E_BadGroupOrder.F.ok sc_i_BadGroupOrder (fun vs H Q E h => ?_) (fun cdv A outer s H vs Q E hr h => ?_)
  · obtain ⟨a, v, rfl, _⟩ := h
    rfl
  · obtain ⟨a, v, rfl, ha, k⟩ := h
    refine ⟨_, pss_one (ps_expr (pe_clsdef (by rfl) T.M.g T.M.rd T.M.ga T.M.fi T.M.kp (ok_i_MixError T) (hr.mono (by decide)) T.M.b pass0 (pa_cons (pv 0) (pa_cons (pv 1) pa_nil)))), ?_⟩
    exact ⟨_, rfl, _, rfl, T.E_BadGroupOrder.C, a, v, _, rfl, T.E_BadGroupOrder.x.oex, T.E_BadGroupOrder.x.noV, T.E_BadGroupOrder.x.noK, T.E_BadGroupOrder.x.nm, ha, k⟩
theorem ok_i_BadCondition (T : Txt K mg) : FnOk P w K mg base CX0 2 T.E_BadCondition.f T.E_BadCondition.fd ["self", "value"] (spInit T.E_BadCondition.C) := by
  refine T.E_BadCondition.F.ok sc_i_BadCondition (fun vs H Q E h => ?_) (fun cdv A outer s H vs Q E hr h => ?_)
  · obtain ⟨a, v, rfl, _⟩ := h
    rfl
  · obtain ⟨a, v, rfl, ha, k⟩ := h
    refine ⟨_, pss_one (ps_expr (pe_clsdef (by rfl) T.M.g T.M.rd T.M.ga T.M.fi T.M.kp (ok_i_MixError T) (hr.mono (by decide)) T.M.b pass0 (pa_cons (pv 0) (pa_cons (pv 1) pa_nil)))), ?_⟩
    exact ⟨_, rfl, _, rfl, T.E_BadCondition.C, a, v, _, rfl, T.E_BadCondition.x.oex, T.E_BadCondition.x.noV, T.E_BadCondition.x.noK, T.E_BadCondition.x.nm, ha, k⟩
theorem ok_i_BadStanding (T : Txt K mg) : FnOk P w K mg base CX0 2 T.E_BadStanding.f T.E_BadStanding.fd ["self", "value"] (spInit T.E_BadStanding.C) := by
  refine T.E_BadStanding.F.ok sc_i_BadStanding (fun vs H Q E h => ?_) (fun cdv A outer s H vs Q E hr h => ?_)
  · obtain ⟨a, v, rfl, _⟩ := h
    rfl
  · obtain ⟨a, v, rfl, ha, k⟩ := h
    refine ⟨_, pss_one (ps_expr (pe_clsdef (by rfl) T.M.g T.M.rd T.M.ga T.M.fi T.M.kp (ok_i_MixError T) (hr.mono (by decide)) T.M.b pass0 (pa_cons (pv 0) (pa_cons (pv 1) pa_nil)))), ?_⟩
    exact ⟨_, rfl, _, rfl, T.E_BadStanding.C, a, v, _, rfl, T.E_BadStanding.x.oex, T.E_BadStanding.x.noV, T.E_BadStanding.x.noK, T.E_BadStanding.x.nm, ha, k⟩
theorem ok_i_BadValue (T : Txt K mg) : FnOk P w K mg base CX0 2 T.E_BadValue.f T.E_BadValue.fd ["self", "value"] (spInit T.E_BadValue.C) := by
  refine T.E_BadValue.F.ok sc_i_BadValue (fun vs H Q E h => ?_) (fun cdv A outer s H vs Q E hr h => ?_)
  · obtain ⟨a, v, rfl, _⟩ := h
    rfl
  · obtain ⟨a, v, rfl, ha, k⟩ := h
    refine ⟨_, pss_one (ps_expr (pe_clsdef (by rfl) T.M.g T.M.rd T.M.ga T.M.fi T.M.kp (ok_i_MixError T) (hr.mono (by decide)) T.M.b pass0 (pa_cons (pv 0) (pa_cons (pv 1) pa_nil)))), ?_⟩
    exact ⟨_, rfl, _, rfl, T.E_BadValue.C, a, v, _, rfl, T.E_BadValue.x.oex, T.E_BadValue.x.noV, T.E_BadValue.x.noK, T.E_BadValue.x.nm, ha, k⟩
theorem ok_i_BadFirst (T : Txt K mg) : FnOk P w K mg base CX0 2 T.E_BadFirst.f T.E_BadFirst.fd ["self", "value"] (spInit T.E_BadFirst.C) := by
  refine T.E_BadFirst.F.ok sc_i_BadFirst (fun vs H Q E h => ?_) (fun cdv A outer s H vs Q E hr h => ?_)
  · obtain ⟨a, v, rfl, _⟩ := h
    rfl
  · obtain ⟨a, v, rfl, ha, k⟩ := h
    refine ⟨_, pss_one (ps_expr (pe_clsdef (by rfl) T.M.g T.M.rd T.M.ga T.M.fi T.M.kp (ok_i_MixError T) (hr.mono (by decide)) T.M.b pass0 (pa_cons (pv 0) (pa_cons (pv 1) pa_nil)))), ?_⟩
    exact ⟨_, rfl, _, rfl, T.E_BadFirst.C, a, v, _, rfl, T.E_BadFirst.x.oex, T.E_BadFirst.x.noV, T.E_BadFirst.x.noK, T.E_BadFirst.x.nm, ha, k⟩
theorem ok_i_BadOutcome (T : Txt K mg) : FnOk P w K mg base CX0 2 T.E_BadOutcome.f T.E_BadOutcome.fd ["self", "value"] (spInit T.E_BadOutcome.C) := by
  refine T.E_BadOutcome.F.ok sc_i_BadOutcome (fun vs H Q E h => ?_) (fun cdv A outer s H vs Q E hr h => ?_)
  · obtain ⟨a, v, rfl, _⟩ := h
    rfl
  · obtain ⟨a, v, rfl, ha, k⟩ := h
    refine ⟨_, pss_one (ps_expr (pe_clsdef (by rfl) T.M.g T.M.rd T.M.ga T.M.fi T.M.kp (ok_i_MixError T) (hr.mono (by decide)) T.M.b pass0 (pa_cons (pv 0) (pa_cons (pv 1) pa_nil)))), ?_⟩
    exact ⟨_, rfl, _, rfl, T.E_BadOutcome.C, a, v, _, rfl, T.E_BadOutcome.x.oex, T.E_BadOutcome.x.noV, T.E_BadOutcome.x.noK, T.E_BadOutcome.x.nm, ha, k⟩
theorem ok_i_DayOver (T : Txt K mg) : FnOk P w K mg base CX0 2 T.E_DayOver.f T.E_DayOver.fd ["self", "value"] (spInit T.E_DayOver.C) := by
  refine T.E_DayOver.F.ok sc_i_DayOver (fun vs H Q E h => ?_) (fun cdv A outer s H vs Q E hr h => ?_)
  · obtain ⟨a, v, rfl, _⟩ := h
    rfl
  · obtain ⟨a, v, rfl, ha, k⟩ := h
    refine ⟨_, pss_one (ps_expr (pe_clsdef (by rfl) T.M.g T.M.rd T.M.ga T.M.fi T.M.kp (ok_i_MixError T) (hr.mono (by decide)) T.M.b pass0 (pa_cons (pv 0) (pa_cons (pv 1) pa_nil)))), ?_⟩
    exact ⟨_, rfl, _, rfl, T.E_DayOver.C, a, v, _, rfl, T.E_DayOver.x.oex, T.E_DayOver.x.noV, T.E_DayOver.x.noK, T.E_DayOver.x.nm, ha, k⟩
theorem ok_i_NoDeed (T : Txt K mg) : FnOk P w K mg base CX0 2 T.E_NoDeed.f T.E_NoDeed.fd ["self", "value"] (spInit T.E_NoDeed.C) := by
  refine T.E_NoDeed.F.ok sc_i_NoDeed (fun vs H Q E h => ?_) (fun cdv A outer s H vs Q E hr h => ?_)
  · obtain ⟨a, v, rfl, _⟩ := h
    rfl
  · obtain ⟨a, v, rfl, ha, k⟩ := h
    refine ⟨_, pss_one (ps_expr (pe_clsdef (by rfl) T.M.g T.M.rd T.M.ga T.M.fi T.M.kp (ok_i_MixError T) (hr.mono (by decide)) T.M.b pass0 (pa_cons (pv 0) (pa_cons (pv 1) pa_nil)))), ?_⟩
    exact ⟨_, rfl, _, rfl, T.E_NoDeed.C, a, v, _, rfl, T.E_NoDeed.x.oex, T.E_NoDeed.x.noV, T.E_NoDeed.x.noK, T.E_NoDeed.x.nm, ha, k⟩
theorem ok_i_BadMark (T : Txt K mg) : FnOk P w K mg base CX0 2 T.E_BadMark.f T.E_BadMark.fd ["self", "value"] (spInit T.E_BadMark.C) := by
  refine T.E_BadMark.F.ok sc_i_BadMark (fun vs H Q E h => ?_) (fun cdv A outer s H vs Q E hr h => ?_)
  · obtain ⟨a, v, rfl, _⟩ := h
    rfl
  · obtain ⟨a, v, rfl, ha, k⟩ := h
    refine ⟨_, pss_one (ps_expr (pe_clsdef (by rfl) T.M.g T.M.rd T.M.ga T.M.fi T.M.kp (ok_i_MixError T) (hr.mono (by decide)) T.M.b pass0 (pa_cons (pv 0) (pa_cons (pv 1) pa_nil)))), ?_⟩
    exact ⟨_, rfl, _, rfl, T.E_BadMark.C, a, v, _, rfl, T.E_BadMark.x.oex, T.E_BadMark.x.noV, T.E_BadMark.x.noK, T.E_BadMark.x.nm, ha, k⟩
theorem ok_i_BadLine (T : Txt K mg) : FnOk P w K mg base CX0 2 T.E_BadLine.f T.E_BadLine.fd ["self", "value"] (spInit T.E_BadLine.C) := by
  refine T.E_BadLine.F.ok sc_i_BadLine (fun vs H Q E h => ?_) (fun cdv A outer s H vs Q E hr h => ?_)
  · obtain ⟨a, v, rfl, _⟩ := h
    rfl
  · obtain ⟨a, v, rfl, ha, k⟩ := h
    refine ⟨_, pss_one (ps_expr (pe_clsdef (by rfl) T.M.g T.M.rd T.M.ga T.M.fi T.M.kp (ok_i_MixError T) (hr.mono (by decide)) T.M.b pass0 (pa_cons (pv 0) (pa_cons (pv 1) pa_nil)))), ?_⟩
    exact ⟨_, rfl, _, rfl, T.E_BadLine.C, a, v, _, rfl, T.E_BadLine.x.oex, T.E_BadLine.x.noV, T.E_BadLine.x.noK, T.E_BadLine.x.nm, ha, k⟩
theorem ok_i_NoDay (T : Txt K mg) : FnOk P w K mg base CX0 2 T.E_NoDay.f T.E_NoDay.fd ["self", "value"] (spInit T.E_NoDay.C) := by
  refine T.E_NoDay.F.ok sc_i_NoDay (fun vs H Q E h => ?_) (fun cdv A outer s H vs Q E hr h => ?_)
  · obtain ⟨a, v, rfl, _⟩ := h
    rfl
  · obtain ⟨a, v, rfl, ha, k⟩ := h
    refine ⟨_, pss_one (ps_expr (pe_clsdef (by rfl) T.M.g T.M.rd T.M.ga T.M.fi T.M.kp (ok_i_MixError T) (hr.mono (by decide)) T.M.b pass0 (pa_cons (pv 0) (pa_cons (pv 1) pa_nil)))), ?_⟩
    exact ⟨_, rfl, _, rfl, T.E_NoDay.C, a, v, _, rfl, T.E_NoDay.x.oex, T.E_NoDay.x.noV, T.E_NoDay.x.noK, T.E_NoDay.x.nm, ha, k⟩
theorem ok_i_TooMany (T : Txt K mg) : FnOk P w K mg base CX0 2 T.E_TooMany.f T.E_TooMany.fd ["self", "value"] (spInit T.E_TooMany.C) := by
  refine T.E_TooMany.F.ok sc_i_TooMany (fun vs H Q E h => ?_) (fun cdv A outer s H vs Q E hr h => ?_)
  · obtain ⟨a, v, rfl, _⟩ := h
    rfl
  · obtain ⟨a, v, rfl, ha, k⟩ := h
    refine ⟨_, pss_one (ps_expr (pe_clsdef (by rfl) T.M.g T.M.rd T.M.ga T.M.fi T.M.kp (ok_i_MixError T) (hr.mono (by decide)) T.M.b pass0 (pa_cons (pv 0) (pa_cons (pv 1) pa_nil)))), ?_⟩
    exact ⟨_, rfl, _, rfl, T.E_TooMany.C, a, v, _, rfl, T.E_TooMany.x.oex, T.E_TooMany.x.noV, T.E_TooMany.x.noK, T.E_TooMany.x.nm, ha, k⟩
def cl1 (T : Txt K mg) : List Addr := [T.E_BadFraction.C, T.E_BadPair.C, T.E_BadPairs.C, T.E_BadTerm.C, T.E_BadMix.C, T.E_BadPlace.C]
def nm1 : List Str := ["BadFraction", "BadPair", "BadPairs", "BadTerm", "BadMix", "BadPlace"]
def cl2 (T : Txt K mg) : List Addr := [T.E_BadText.C, T.E_BadLadder.C, T.E_BadLadders.C, T.E_NoFrame.C, T.E_BadHabit.C]
def nm2 : List Str := ["BadText", "BadLadder", "BadLadders", "NoFrame", "BadHabit"]
def cl3 (T : Txt K mg) : List Addr := [T.E_BadChoice.C, T.E_BadCourse.C, T.E_BadTerms.C, T.E_NoFit.C, T.E_NoCompany.C]
def nm3 : List Str := ["BadChoice", "BadCourse", "BadTerms", "NoFit", "NoCompany"]
def cl4 (T : Txt K mg) : List Addr := [T.E_BadWays.C, T.E_BadNumber.C, T.E_BadForest.C, T.E_BadOrder.C, T.E_BadJoin.C]
def nm4 : List Str := ["BadWays", "BadNumber", "BadForest", "BadOrder", "BadJoin"]
def cl5 (T : Txt K mg) : List Addr := [T.E_BadRow.C, T.E_BadTable.C, T.E_BadBox.C, T.E_BadBoxes.C, T.E_BadSeen.C]
def nm5 : List Str := ["BadRow", "BadTable", "BadBox", "BadBoxes", "BadSeen"]
def cl6 (T : Txt K mg) : List Addr := [T.E_BadProject.C, T.E_BadShare.C, T.E_BadYard.C, T.E_BadPlan.C, T.E_BadWorked.C]
def nm6 : List Str := ["BadProject", "BadShare", "BadYard", "BadPlan", "BadWorked"]
def cl7 (T : Txt K mg) : List Addr := [T.E_BadGroup.C, T.E_BadGroupOrder.C, T.E_BadCondition.C, T.E_BadStanding.C]
def nm7 : List Str := ["BadGroup", "BadGroupOrder", "BadCondition", "BadStanding"]
def cl8 (T : Txt K mg) : List Addr := [T.E_BadValue.C, T.E_BadFirst.C, T.E_BadOutcome.C, T.E_DayOver.C, T.E_NoDeed.C]
def nm8 : List Str := ["BadValue", "BadFirst", "BadOutcome", "DayOver", "NoDeed"]
def cl9 (T : Txt K mg) : List Addr := [T.E_BadMark.C, T.E_BadLine.C, T.E_NoDay.C, T.E_TooMany.C]
def nm9 : List Str := ["BadMark", "BadLine", "NoDay", "TooMany"]
def clsAll (T : Txt K mg) : List Addr := (((((((cl1 T ++ cl2 T) ++ cl3 T) ++ cl4 T) ++ cl5 T) ++ cl6 T) ++ cl7 T) ++ cl8 T) ++ cl9 T
def spMade (K : PySem.W.Frag) (Cs : List Addr) : Sp := fun vs H Q _ => ∃ v, vs = [v] ∧ ∀ x H', Ex H H' → LstE K Cs v x H' → Q x H'
theorem ok__law_made (T : Txt K mg) : FnOk P w K mg base CX0 4 T.d__law_made.a T.d__law_made.fd ["_law_value"] (spMade K (clsAll T)) := by
  refine T.d__law_made.F.ok sc__law_made (fun vs H Q E h => ?_) (fun cdv A outer s H vs Q E hr h => ?_)
  · obtain ⟨v, rfl, _⟩ := h
    rfl
  · obtain ⟨v, rfl, k⟩ := h
    refine ⟨_, (pss_cons (ps_set (i := 1) sc__law_made.nd rfl (Or.inl rfl) (pe_lst (pa_cons (pe_mkv T.E_BadFraction.x.oex T.E_BadFraction.x.i T.E_BadFraction.x.t (ok_i_BadFraction T) (hr.mono (by decide)) T.E_BadFraction.b pass0 (by rfl) T.E_BadFraction.g (pa_cons (pv 0) pa_nil)) (pa_cons (pe_mkv T.E_BadPair.x.oex T.E_BadPair.x.i T.E_BadPair.x.t (ok_i_BadPair T) (hr.mono (by decide)) T.E_BadPair.b pass0 (by rfl) T.E_BadPair.g (pa_cons (pv 0) pa_nil)) (pa_cons (pe_mkv T.E_BadPairs.x.oex T.E_BadPairs.x.i T.E_BadPairs.x.t (ok_i_BadPairs T) (hr.mono (by decide)) T.E_BadPairs.b pass0 (by rfl) T.E_BadPairs.g (pa_cons (pv 0) pa_nil)) (pa_cons (pe_mkv T.E_BadTerm.x.oex T.E_BadTerm.x.i T.E_BadTerm.x.t (ok_i_BadTerm T) (hr.mono (by decide)) T.E_BadTerm.b pass0 (by rfl) T.E_BadTerm.g (pa_cons (pv 0) pa_nil)) (pa_cons (pe_mkv T.E_BadMix.x.oex T.E_BadMix.x.i T.E_BadMix.x.t (ok_i_BadMix T) (hr.mono (by decide)) T.E_BadMix.b pass0 (by rfl) T.E_BadMix.g (pa_cons (pv 0) pa_nil)) (pa_cons (pe_mkv T.E_BadPlace.x.oex T.E_BadPlace.x.i T.E_BadPlace.x.t (ok_i_BadPlace T) (hr.mono (by decide)) T.E_BadPlace.b pass0 (by rfl) T.E_BadPlace.g (pa_cons (pv 0) pa_nil)) pa_nil))))))))
      (pss_cons (ps_set (i := 1) sc__law_made.nd rfl (Or.inl rfl) (pe_op op_cat (pv 1) (pe_lst (pa_cons (pe_mkv T.E_BadText.x.oex T.E_BadText.x.i T.E_BadText.x.t (ok_i_BadText T) (hr.mono (by decide)) T.E_BadText.b pass0 (by rfl) T.E_BadText.g (pa_cons (pv 0) pa_nil)) (pa_cons (pe_mkv T.E_BadLadder.x.oex T.E_BadLadder.x.i T.E_BadLadder.x.t (ok_i_BadLadder T) (hr.mono (by decide)) T.E_BadLadder.b pass0 (by rfl) T.E_BadLadder.g (pa_cons (pv 0) pa_nil)) (pa_cons (pe_mkv T.E_BadLadders.x.oex T.E_BadLadders.x.i T.E_BadLadders.x.t (ok_i_BadLadders T) (hr.mono (by decide)) T.E_BadLadders.b pass0 (by rfl) T.E_BadLadders.g (pa_cons (pv 0) pa_nil)) (pa_cons (pe_mkv T.E_NoFrame.x.oex T.E_NoFrame.x.i T.E_NoFrame.x.t (ok_i_NoFrame T) (hr.mono (by decide)) T.E_NoFrame.b pass0 (by rfl) T.E_NoFrame.g (pa_cons (pv 0) pa_nil)) (pa_cons (pe_mkv T.E_BadHabit.x.oex T.E_BadHabit.x.i T.E_BadHabit.x.t (ok_i_BadHabit T) (hr.mono (by decide)) T.E_BadHabit.b pass0 (by rfl) T.E_BadHabit.g (pa_cons (pv 0) pa_nil)) pa_nil))))))))
      (pss_cons (ps_set (i := 1) sc__law_made.nd rfl (Or.inl rfl) (pe_op op_cat (pv 1) (pe_lst (pa_cons (pe_mkv T.E_BadChoice.x.oex T.E_BadChoice.x.i T.E_BadChoice.x.t (ok_i_BadChoice T) (hr.mono (by decide)) T.E_BadChoice.b pass0 (by rfl) T.E_BadChoice.g (pa_cons (pv 0) pa_nil)) (pa_cons (pe_mkv T.E_BadCourse.x.oex T.E_BadCourse.x.i T.E_BadCourse.x.t (ok_i_BadCourse T) (hr.mono (by decide)) T.E_BadCourse.b pass0 (by rfl) T.E_BadCourse.g (pa_cons (pv 0) pa_nil)) (pa_cons (pe_mkv T.E_BadTerms.x.oex T.E_BadTerms.x.i T.E_BadTerms.x.t (ok_i_BadTerms T) (hr.mono (by decide)) T.E_BadTerms.b pass0 (by rfl) T.E_BadTerms.g (pa_cons (pv 0) pa_nil)) (pa_cons (pe_mkv T.E_NoFit.x.oex T.E_NoFit.x.i T.E_NoFit.x.t (ok_i_NoFit T) (hr.mono (by decide)) T.E_NoFit.b pass0 (by rfl) T.E_NoFit.g (pa_cons (pv 0) pa_nil)) (pa_cons (pe_mkv T.E_NoCompany.x.oex T.E_NoCompany.x.i T.E_NoCompany.x.t (ok_i_NoCompany T) (hr.mono (by decide)) T.E_NoCompany.b pass0 (by rfl) T.E_NoCompany.g (pa_cons (pv 0) pa_nil)) pa_nil))))))))
      (pss_cons (ps_set (i := 1) sc__law_made.nd rfl (Or.inl rfl) (pe_op op_cat (pv 1) (pe_lst (pa_cons (pe_mkv T.E_BadWays.x.oex T.E_BadWays.x.i T.E_BadWays.x.t (ok_i_BadWays T) (hr.mono (by decide)) T.E_BadWays.b pass0 (by rfl) T.E_BadWays.g (pa_cons (pv 0) pa_nil)) (pa_cons (pe_mkv T.E_BadNumber.x.oex T.E_BadNumber.x.i T.E_BadNumber.x.t (ok_i_BadNumber T) (hr.mono (by decide)) T.E_BadNumber.b pass0 (by rfl) T.E_BadNumber.g (pa_cons (pv 0) pa_nil)) (pa_cons (pe_mkv T.E_BadForest.x.oex T.E_BadForest.x.i T.E_BadForest.x.t (ok_i_BadForest T) (hr.mono (by decide)) T.E_BadForest.b pass0 (by rfl) T.E_BadForest.g (pa_cons (pv 0) pa_nil)) (pa_cons (pe_mkv T.E_BadOrder.x.oex T.E_BadOrder.x.i T.E_BadOrder.x.t (ok_i_BadOrder T) (hr.mono (by decide)) T.E_BadOrder.b pass0 (by rfl) T.E_BadOrder.g (pa_cons (pv 0) pa_nil)) (pa_cons (pe_mkv T.E_BadJoin.x.oex T.E_BadJoin.x.i T.E_BadJoin.x.t (ok_i_BadJoin T) (hr.mono (by decide)) T.E_BadJoin.b pass0 (by rfl) T.E_BadJoin.g (pa_cons (pv 0) pa_nil)) pa_nil))))))))
      (pss_cons (ps_set (i := 1) sc__law_made.nd rfl (Or.inl rfl) (pe_op op_cat (pv 1) (pe_lst (pa_cons (pe_mkv T.E_BadRow.x.oex T.E_BadRow.x.i T.E_BadRow.x.t (ok_i_BadRow T) (hr.mono (by decide)) T.E_BadRow.b pass0 (by rfl) T.E_BadRow.g (pa_cons (pv 0) pa_nil)) (pa_cons (pe_mkv T.E_BadTable.x.oex T.E_BadTable.x.i T.E_BadTable.x.t (ok_i_BadTable T) (hr.mono (by decide)) T.E_BadTable.b pass0 (by rfl) T.E_BadTable.g (pa_cons (pv 0) pa_nil)) (pa_cons (pe_mkv T.E_BadBox.x.oex T.E_BadBox.x.i T.E_BadBox.x.t (ok_i_BadBox T) (hr.mono (by decide)) T.E_BadBox.b pass0 (by rfl) T.E_BadBox.g (pa_cons (pv 0) pa_nil)) (pa_cons (pe_mkv T.E_BadBoxes.x.oex T.E_BadBoxes.x.i T.E_BadBoxes.x.t (ok_i_BadBoxes T) (hr.mono (by decide)) T.E_BadBoxes.b pass0 (by rfl) T.E_BadBoxes.g (pa_cons (pv 0) pa_nil)) (pa_cons (pe_mkv T.E_BadSeen.x.oex T.E_BadSeen.x.i T.E_BadSeen.x.t (ok_i_BadSeen T) (hr.mono (by decide)) T.E_BadSeen.b pass0 (by rfl) T.E_BadSeen.g (pa_cons (pv 0) pa_nil)) pa_nil))))))))
      (pss_cons (ps_set (i := 1) sc__law_made.nd rfl (Or.inl rfl) (pe_op op_cat (pv 1) (pe_lst (pa_cons (pe_mkv T.E_BadProject.x.oex T.E_BadProject.x.i T.E_BadProject.x.t (ok_i_BadProject T) (hr.mono (by decide)) T.E_BadProject.b pass0 (by rfl) T.E_BadProject.g (pa_cons (pv 0) pa_nil)) (pa_cons (pe_mkv T.E_BadShare.x.oex T.E_BadShare.x.i T.E_BadShare.x.t (ok_i_BadShare T) (hr.mono (by decide)) T.E_BadShare.b pass0 (by rfl) T.E_BadShare.g (pa_cons (pv 0) pa_nil)) (pa_cons (pe_mkv T.E_BadYard.x.oex T.E_BadYard.x.i T.E_BadYard.x.t (ok_i_BadYard T) (hr.mono (by decide)) T.E_BadYard.b pass0 (by rfl) T.E_BadYard.g (pa_cons (pv 0) pa_nil)) (pa_cons (pe_mkv T.E_BadPlan.x.oex T.E_BadPlan.x.i T.E_BadPlan.x.t (ok_i_BadPlan T) (hr.mono (by decide)) T.E_BadPlan.b pass0 (by rfl) T.E_BadPlan.g (pa_cons (pv 0) pa_nil)) (pa_cons (pe_mkv T.E_BadWorked.x.oex T.E_BadWorked.x.i T.E_BadWorked.x.t (ok_i_BadWorked T) (hr.mono (by decide)) T.E_BadWorked.b pass0 (by rfl) T.E_BadWorked.g (pa_cons (pv 0) pa_nil)) pa_nil))))))))
      (pss_cons (ps_set (i := 1) sc__law_made.nd rfl (Or.inl rfl) (pe_op op_cat (pv 1) (pe_lst (pa_cons (pe_mkv T.E_BadGroup.x.oex T.E_BadGroup.x.i T.E_BadGroup.x.t (ok_i_BadGroup T) (hr.mono (by decide)) T.E_BadGroup.b pass0 (by rfl) T.E_BadGroup.g (pa_cons (pv 0) pa_nil)) (pa_cons (pe_mkv T.E_BadGroupOrder.x.oex T.E_BadGroupOrder.x.i T.E_BadGroupOrder.x.t (ok_i_BadGroupOrder T) (hr.mono (by decide)) T.E_BadGroupOrder.b pass0 (by rfl) T.E_BadGroupOrder.g (pa_cons (pv 0) pa_nil)) (pa_cons (pe_mkv T.E_BadCondition.x.oex T.E_BadCondition.x.i T.E_BadCondition.x.t (ok_i_BadCondition T) (hr.mono (by decide)) T.E_BadCondition.b pass0 (by rfl) T.E_BadCondition.g (pa_cons (pv 0) pa_nil)) (pa_cons (pe_mkv T.E_BadStanding.x.oex T.E_BadStanding.x.i T.E_BadStanding.x.t (ok_i_BadStanding T) (hr.mono (by decide)) T.E_BadStanding.b pass0 (by rfl) T.E_BadStanding.g (pa_cons (pv 0) pa_nil)) pa_nil)))))))
      (pss_cons (ps_set (i := 1) sc__law_made.nd rfl (Or.inl rfl) (pe_op op_cat (pv 1) (pe_lst (pa_cons (pe_mkv T.E_BadValue.x.oex T.E_BadValue.x.i T.E_BadValue.x.t (ok_i_BadValue T) (hr.mono (by decide)) T.E_BadValue.b pass0 (by rfl) T.E_BadValue.g (pa_cons (pv 0) pa_nil)) (pa_cons (pe_mkv T.E_BadFirst.x.oex T.E_BadFirst.x.i T.E_BadFirst.x.t (ok_i_BadFirst T) (hr.mono (by decide)) T.E_BadFirst.b pass0 (by rfl) T.E_BadFirst.g (pa_cons (pv 0) pa_nil)) (pa_cons (pe_mkv T.E_BadOutcome.x.oex T.E_BadOutcome.x.i T.E_BadOutcome.x.t (ok_i_BadOutcome T) (hr.mono (by decide)) T.E_BadOutcome.b pass0 (by rfl) T.E_BadOutcome.g (pa_cons (pv 0) pa_nil)) (pa_cons (pe_mkv T.E_DayOver.x.oex T.E_DayOver.x.i T.E_DayOver.x.t (ok_i_DayOver T) (hr.mono (by decide)) T.E_DayOver.b pass0 (by rfl) T.E_DayOver.g (pa_cons (pv 0) pa_nil)) (pa_cons (pe_mkv T.E_NoDeed.x.oex T.E_NoDeed.x.i T.E_NoDeed.x.t (ok_i_NoDeed T) (hr.mono (by decide)) T.E_NoDeed.b pass0 (by rfl) T.E_NoDeed.g (pa_cons (pv 0) pa_nil)) pa_nil))))))))
      (pss_one (ps_ret (pe_op op_cat (pv 1) (pe_lst (pa_cons (pe_mkv T.E_BadMark.x.oex T.E_BadMark.x.i T.E_BadMark.x.t (ok_i_BadMark T) (hr.mono (by decide)) T.E_BadMark.b pass0 (by rfl) T.E_BadMark.g (pa_cons (pv 0) pa_nil)) (pa_cons (pe_mkv T.E_BadLine.x.oex T.E_BadLine.x.i T.E_BadLine.x.t (ok_i_BadLine T) (hr.mono (by decide)) T.E_BadLine.b pass0 (by rfl) T.E_BadLine.g (pa_cons (pv 0) pa_nil)) (pa_cons (pe_mkv T.E_NoDay.x.oex T.E_NoDay.x.i T.E_NoDay.x.t (ok_i_NoDay T) (hr.mono (by decide)) T.E_NoDay.b pass0 (by rfl) T.E_NoDay.g (pa_cons (pv 0) pa_nil)) (pa_cons (pe_mkv T.E_TooMany.x.oex T.E_TooMany.x.i T.E_TooMany.x.t (ok_i_TooMany T) (hr.mono (by decide)) T.E_TooMany.b pass0 (by rfl) T.E_TooMany.g (pa_cons (pv 0) pa_nil)) pa_nil)))))))))))))))), ?_⟩
    refine n_seq ?_
    refine s_asgP (le_lst (K := K) (Cs := cl1 T) (es_cons (ep_mk rfl) (es_cons (ep_mk rfl) (es_cons (ep_mk rfl) (es_cons (ep_mk rfl) (es_cons (ep_mk rfl) (es_cons (ep_mk rfl) (es_nil))))))) (by show 6 ≤ 1000; decide)) fun x1 H1 e1 q1 => ?_
    have E1 := e1
    dsimp only
    refine n_seq ?_
    refine s_asgP (le_cat (K := K) (Cs := cl1 T) (Ds := cl2 T) (i := 1) rfl q1 (es_cons (ep_mk rfl) (es_cons (ep_mk rfl) (es_cons (ep_mk rfl) (es_cons (ep_mk rfl) (es_cons (ep_mk rfl) (es_nil)))))) (by show 11 ≤ 900; decide)) fun x2 H2 e2 q2 => ?_
    have E2 := E1.trans e2
    dsimp only
    refine n_seq ?_
    refine s_asgP (le_cat (K := K) (Cs := cl1 T ++ cl2 T) (Ds := cl3 T) (i := 1) rfl q2 (es_cons (ep_mk rfl) (es_cons (ep_mk rfl) (es_cons (ep_mk rfl) (es_cons (ep_mk rfl) (es_cons (ep_mk rfl) (es_nil)))))) (by show 16 ≤ 900; decide)) fun x3 H3 e3 q3 => ?_
    have E3 := E2.trans e3
    dsimp only
    refine n_seq ?_
    refine s_asgP (le_cat (K := K) (Cs := (cl1 T ++ cl2 T) ++ cl3 T) (Ds := cl4 T) (i := 1) rfl q3 (es_cons (ep_mk rfl) (es_cons (ep_mk rfl) (es_cons (ep_mk rfl) (es_cons (ep_mk rfl) (es_cons (ep_mk rfl) (es_nil)))))) (by show 21 ≤ 900; decide)) fun x4 H4 e4 q4 => ?_
    have E4 := E3.trans e4
    dsimp only
    refine n_seq ?_
    refine s_asgP (le_cat (K := K) (Cs := ((cl1 T ++ cl2 T) ++ cl3 T) ++ cl4 T) (Ds := cl5 T) (i := 1) rfl q4 (es_cons (ep_mk rfl) (es_cons (ep_mk rfl) (es_cons (ep_mk rfl) (es_cons (ep_mk rfl) (es_cons (ep_mk rfl) (es_nil)))))) (by show 26 ≤ 900; decide)) fun x5 H5 e5 q5 => ?_
    have E5 := E4.trans e5
    dsimp only
    refine n_seq ?_
    refine s_asgP (le_cat (K := K) (Cs := (((cl1 T ++ cl2 T) ++ cl3 T) ++ cl4 T) ++ cl5 T) (Ds := cl6 T) (i := 1) rfl q5 (es_cons (ep_mk rfl) (es_cons (ep_mk rfl) (es_cons (ep_mk rfl) (es_cons (ep_mk rfl) (es_cons (ep_mk rfl) (es_nil)))))) (by show 31 ≤ 900; decide)) fun x6 H6 e6 q6 => ?_
    have E6 := E5.trans e6
    dsimp only
    refine n_seq ?_
    refine s_asgP (le_cat (K := K) (Cs := ((((cl1 T ++ cl2 T) ++ cl3 T) ++ cl4 T) ++ cl5 T) ++ cl6 T) (Ds := cl7 T) (i := 1) rfl q6 (es_cons (ep_mk rfl) (es_cons (ep_mk rfl) (es_cons (ep_mk rfl) (es_cons (ep_mk rfl) (es_nil))))) (by show 35 ≤ 900; decide)) fun x7 H7 e7 q7 => ?_
    have E7 := E6.trans e7
    dsimp only
    refine n_seq ?_
    refine s_asgP (le_cat (K := K) (Cs := (((((cl1 T ++ cl2 T) ++ cl3 T) ++ cl4 T) ++ cl5 T) ++ cl6 T) ++ cl7 T) (Ds := cl8 T) (i := 1) rfl q7 (es_cons (ep_mk rfl) (es_cons (ep_mk rfl) (es_cons (ep_mk rfl) (es_cons (ep_mk rfl) (es_cons (ep_mk rfl) (es_nil)))))) (by show 40 ≤ 900; decide)) fun x8 H8 e8 q8 => ?_
    have E8 := E7.trans e8
    dsimp only
    refine s_retP (le_cat (K := K) (Cs := ((((((cl1 T ++ cl2 T) ++ cl3 T) ++ cl4 T) ++ cl5 T) ++ cl6 T) ++ cl7 T) ++ cl8 T) (Ds := cl9 T) (i := 1) rfl q8 (es_cons (ep_mk rfl) (es_cons (ep_mk rfl) (es_cons (ep_mk rfl) (es_cons (ep_mk rfl) (es_nil))))) (by show 44 ≤ 900; decide)) fun x9 H9 e9 q9 => ?_
    have E9 := E8.trans e9
    exact k x9 H9 E9 q9
end
section
variable {P : Program} {w : World} {K : PySem.W.Frag} {mg : Str → Option Value} {base : Heap}
/-- which of them it is -/
def spKinds (K : PySem.W.Frag) (CM : Addr) (Cs : List Addr) : Sp := fun vs H Q _ => ∃ (C f : Addr) (nm : Str) (v x : V), vs = [x] ∧ ErrAt K C v x H ∧ ErrX K C CM f nm ∧ ∀ p H', Ex H H' → H' p = some (.lst (Cs.map fun B => .bl (decide (C = B)))) → Q (.ref p) H'
theorem ref_rel {B : Addr} : ∀ u, RelV (.ref B) u → u = .ref B := fun _ r => r
theorem el_bools {σ : L2.St} {H : Hp} {ta : TA} {Cs : List Addr} {C : Addr} (h : EvA ta σ H (Cs.map fun B => .bl (decide (C = B)))) (hl : Cs.length ≤ 100) : EvL (tLst ta) σ H (Cs.map fun B => .bl (decide (C = B))) := el_lst h (by rw [List.length_map]; omega)
def clK1 (T : Txt K mg) : List Addr := [T.E_BadFraction.C, T.E_BadPair.C, T.E_BadPairs.C]
def cc1 (T : Txt K mg) : List Addr := [T.E_BadFraction.C, T.E_BadPair.C, T.E_BadPairs.C]
def clK2 (T : Txt K mg) : List Addr := [T.E_BadTerm.C, T.E_BadMix.C, T.E_BadPlace.C]
def cc2 (T : Txt K mg) : List Addr := cc1 T ++ clK2 T
def clK3 (T : Txt K mg) : List Addr := [T.E_BadText.C, T.E_BadLadder.C, T.E_BadLadders.C]
def cc3 (T : Txt K mg) : List Addr := cc2 T ++ clK3 T
def clK4 (T : Txt K mg) : List Addr := [T.E_NoFrame.C, T.E_BadHabit.C, T.E_BadChoice.C]
def cc4 (T : Txt K mg) : List Addr := cc3 T ++ clK4 T
def clK5 (T : Txt K mg) : List Addr := [T.E_BadCourse.C, T.E_BadTerms.C, T.E_NoFit.C]
def cc5 (T : Txt K mg) : List Addr := cc4 T ++ clK5 T
def clK6 (T : Txt K mg) : List Addr := [T.E_NoCompany.C, T.E_BadWays.C, T.E_BadNumber.C]
def cc6 (T : Txt K mg) : List Addr := cc5 T ++ clK6 T
def clK7 (T : Txt K mg) : List Addr := [T.E_BadForest.C, T.E_BadOrder.C, T.E_BadJoin.C]
def cc7 (T : Txt K mg) : List Addr := cc6 T ++ clK7 T
def clK8 (T : Txt K mg) : List Addr := [T.E_BadRow.C, T.E_BadTable.C, T.E_BadBox.C]
def cc8 (T : Txt K mg) : List Addr := cc7 T ++ clK8 T
def clK9 (T : Txt K mg) : List Addr := [T.E_BadBoxes.C, T.E_BadSeen.C, T.E_BadProject.C]
def cc9 (T : Txt K mg) : List Addr := cc8 T ++ clK9 T
def clK10 (T : Txt K mg) : List Addr := [T.E_BadShare.C, T.E_BadYard.C, T.E_BadPlan.C]
def cc10 (T : Txt K mg) : List Addr := cc9 T ++ clK10 T
def clK11 (T : Txt K mg) : List Addr := [T.E_BadWorked.C, T.E_BadGroup.C, T.E_BadGroupOrder.C]
def cc11 (T : Txt K mg) : List Addr := cc10 T ++ clK11 T
def clK12 (T : Txt K mg) : List Addr := [T.E_BadCondition.C, T.E_BadStanding.C, T.E_BadValue.C]
def cc12 (T : Txt K mg) : List Addr := cc11 T ++ clK12 T
def clK13 (T : Txt K mg) : List Addr := [T.E_BadFirst.C, T.E_BadOutcome.C, T.E_DayOver.C]
def cc13 (T : Txt K mg) : List Addr := cc12 T ++ clK13 T
def clK14 (T : Txt K mg) : List Addr := [T.E_NoDeed.C, T.E_BadMark.C, T.E_BadLine.C]
def cc14 (T : Txt K mg) : List Addr := cc13 T ++ clK14 T
def clK15 (T : Txt K mg) : List Addr := [T.E_NoDay.C, T.E_TooMany.C]
def cc15 (T : Txt K mg) : List Addr := cc14 T ++ clK15 T
theorem cc_len : ∀ (T : Txt K mg), (cc15 T).length = 44 := fun _ => rfl
theorem cls_cc (T : Txt K mg) : clsAll T = cc15 T := by
  simp only [clsAll, cl1, cl2, cl3, cl4, cl5, cl6, cl7, cl8, cl9, clK2, clK3, clK4, clK5, clK6, clK7, clK8, clK9, clK10, clK11, clK12, clK13, clK14, clK15, cc1, cc2, cc3, cc4, cc5, cc6, cc7, cc8, cc9, cc10, cc11, cc12, cc13, cc14, cc15, List.cons_append, List.nil_append]
set_option maxHeartbeats 8000000 in
theorem ok__law_kinds (T : Txt K mg) : FnOk P w K mg base CX0 1 T.d__law_kinds.a T.d__law_kinds.fd ["_law_one_here"] (spKinds K T.M.C (clsAll T)) := by
  refine T.d__law_kinds.F.ok sc__law_kinds (fun vs H Q E h => ?_) (fun cdv A outer s H vs Q E hr h => ?_)
  · obtain ⟨C, f, nm, v, x, rfl, _⟩ := h
    rfl
  · obtain ⟨C, f, nm, v, x, rfl, he, X, k⟩ := h
    refine ⟨_, (pss_cons (ps_set (i := 1) sc__law_kinds.nd rfl (Or.inl rfl) (pe_lst (pa_cons (pe_callB call_isX (by rfl) T.n_isinstance (by decide +kernel) (pa_cons (pv 0) (pa_cons (pe_glob (v := .ref T.E_BadFraction.C) rfl T.E_BadFraction.g rfl) pa_nil))) (pa_cons (pe_callB call_isX (by rfl) T.n_isinstance (by decide +kernel) (pa_cons (pv 0) (pa_cons (pe_glob (v := .ref T.E_BadPair.C) rfl T.E_BadPair.g rfl) pa_nil))) (pa_cons (pe_callB call_isX (by rfl) T.n_isinstance (by decide +kernel) (pa_cons (pv 0) (pa_cons (pe_glob (v := .ref T.E_BadPairs.C) rfl T.E_BadPairs.g rfl) pa_nil))) pa_nil)))))
      (pss_cons (ps_set (i := 1) sc__law_kinds.nd rfl (Or.inl rfl) (pe_op op_cat (pv 1) (pe_lst (pa_cons (pe_callB call_isX (by rfl) T.n_isinstance (by decide +kernel) (pa_cons (pv 0) (pa_cons (pe_glob (v := .ref T.E_BadTerm.C) rfl T.E_BadTerm.g rfl) pa_nil))) (pa_cons (pe_callB call_isX (by rfl) T.n_isinstance (by decide +kernel) (pa_cons (pv 0) (pa_cons (pe_glob (v := .ref T.E_BadMix.C) rfl T.E_BadMix.g rfl) pa_nil))) (pa_cons (pe_callB call_isX (by rfl) T.n_isinstance (by decide +kernel) (pa_cons (pv 0) (pa_cons (pe_glob (v := .ref T.E_BadPlace.C) rfl T.E_BadPlace.g rfl) pa_nil))) pa_nil))))))
      (pss_cons (ps_set (i := 1) sc__law_kinds.nd rfl (Or.inl rfl) (pe_op op_cat (pv 1) (pe_lst (pa_cons (pe_callB call_isX (by rfl) T.n_isinstance (by decide +kernel) (pa_cons (pv 0) (pa_cons (pe_glob (v := .ref T.E_BadText.C) rfl T.E_BadText.g rfl) pa_nil))) (pa_cons (pe_callB call_isX (by rfl) T.n_isinstance (by decide +kernel) (pa_cons (pv 0) (pa_cons (pe_glob (v := .ref T.E_BadLadder.C) rfl T.E_BadLadder.g rfl) pa_nil))) (pa_cons (pe_callB call_isX (by rfl) T.n_isinstance (by decide +kernel) (pa_cons (pv 0) (pa_cons (pe_glob (v := .ref T.E_BadLadders.C) rfl T.E_BadLadders.g rfl) pa_nil))) pa_nil))))))
      (pss_cons (ps_set (i := 1) sc__law_kinds.nd rfl (Or.inl rfl) (pe_op op_cat (pv 1) (pe_lst (pa_cons (pe_callB call_isX (by rfl) T.n_isinstance (by decide +kernel) (pa_cons (pv 0) (pa_cons (pe_glob (v := .ref T.E_NoFrame.C) rfl T.E_NoFrame.g rfl) pa_nil))) (pa_cons (pe_callB call_isX (by rfl) T.n_isinstance (by decide +kernel) (pa_cons (pv 0) (pa_cons (pe_glob (v := .ref T.E_BadHabit.C) rfl T.E_BadHabit.g rfl) pa_nil))) (pa_cons (pe_callB call_isX (by rfl) T.n_isinstance (by decide +kernel) (pa_cons (pv 0) (pa_cons (pe_glob (v := .ref T.E_BadChoice.C) rfl T.E_BadChoice.g rfl) pa_nil))) pa_nil))))))
      (pss_cons (ps_set (i := 1) sc__law_kinds.nd rfl (Or.inl rfl) (pe_op op_cat (pv 1) (pe_lst (pa_cons (pe_callB call_isX (by rfl) T.n_isinstance (by decide +kernel) (pa_cons (pv 0) (pa_cons (pe_glob (v := .ref T.E_BadCourse.C) rfl T.E_BadCourse.g rfl) pa_nil))) (pa_cons (pe_callB call_isX (by rfl) T.n_isinstance (by decide +kernel) (pa_cons (pv 0) (pa_cons (pe_glob (v := .ref T.E_BadTerms.C) rfl T.E_BadTerms.g rfl) pa_nil))) (pa_cons (pe_callB call_isX (by rfl) T.n_isinstance (by decide +kernel) (pa_cons (pv 0) (pa_cons (pe_glob (v := .ref T.E_NoFit.C) rfl T.E_NoFit.g rfl) pa_nil))) pa_nil))))))
      (pss_cons (ps_set (i := 1) sc__law_kinds.nd rfl (Or.inl rfl) (pe_op op_cat (pv 1) (pe_lst (pa_cons (pe_callB call_isX (by rfl) T.n_isinstance (by decide +kernel) (pa_cons (pv 0) (pa_cons (pe_glob (v := .ref T.E_NoCompany.C) rfl T.E_NoCompany.g rfl) pa_nil))) (pa_cons (pe_callB call_isX (by rfl) T.n_isinstance (by decide +kernel) (pa_cons (pv 0) (pa_cons (pe_glob (v := .ref T.E_BadWays.C) rfl T.E_BadWays.g rfl) pa_nil))) (pa_cons (pe_callB call_isX (by rfl) T.n_isinstance (by decide +kernel) (pa_cons (pv 0) (pa_cons (pe_glob (v := .ref T.E_BadNumber.C) rfl T.E_BadNumber.g rfl) pa_nil))) pa_nil))))))
      (pss_cons (ps_set (i := 1) sc__law_kinds.nd rfl (Or.inl rfl) (pe_op op_cat (pv 1) (pe_lst (pa_cons (pe_callB call_isX (by rfl) T.n_isinstance (by decide +kernel) (pa_cons (pv 0) (pa_cons (pe_glob (v := .ref T.E_BadForest.C) rfl T.E_BadForest.g rfl) pa_nil))) (pa_cons (pe_callB call_isX (by rfl) T.n_isinstance (by decide +kernel) (pa_cons (pv 0) (pa_cons (pe_glob (v := .ref T.E_BadOrder.C) rfl T.E_BadOrder.g rfl) pa_nil))) (pa_cons (pe_callB call_isX (by rfl) T.n_isinstance (by decide +kernel) (pa_cons (pv 0) (pa_cons (pe_glob (v := .ref T.E_BadJoin.C) rfl T.E_BadJoin.g rfl) pa_nil))) pa_nil))))))
      (pss_cons (ps_set (i := 1) sc__law_kinds.nd rfl (Or.inl rfl) (pe_op op_cat (pv 1) (pe_lst (pa_cons (pe_callB call_isX (by rfl) T.n_isinstance (by decide +kernel) (pa_cons (pv 0) (pa_cons (pe_glob (v := .ref T.E_BadRow.C) rfl T.E_BadRow.g rfl) pa_nil))) (pa_cons (pe_callB call_isX (by rfl) T.n_isinstance (by decide +kernel) (pa_cons (pv 0) (pa_cons (pe_glob (v := .ref T.E_BadTable.C) rfl T.E_BadTable.g rfl) pa_nil))) (pa_cons (pe_callB call_isX (by rfl) T.n_isinstance (by decide +kernel) (pa_cons (pv 0) (pa_cons (pe_glob (v := .ref T.E_BadBox.C) rfl T.E_BadBox.g rfl) pa_nil))) pa_nil))))))
      (pss_cons (ps_set (i := 1) sc__law_kinds.nd rfl (Or.inl rfl) (pe_op op_cat (pv 1) (pe_lst (pa_cons (pe_callB call_isX (by rfl) T.n_isinstance (by decide +kernel) (pa_cons (pv 0) (pa_cons (pe_glob (v := .ref T.E_BadBoxes.C) rfl T.E_BadBoxes.g rfl) pa_nil))) (pa_cons (pe_callB call_isX (by rfl) T.n_isinstance (by decide +kernel) (pa_cons (pv 0) (pa_cons (pe_glob (v := .ref T.E_BadSeen.C) rfl T.E_BadSeen.g rfl) pa_nil))) (pa_cons (pe_callB call_isX (by rfl) T.n_isinstance (by decide +kernel) (pa_cons (pv 0) (pa_cons (pe_glob (v := .ref T.E_BadProject.C) rfl T.E_BadProject.g rfl) pa_nil))) pa_nil))))))
      (pss_cons (ps_set (i := 1) sc__law_kinds.nd rfl (Or.inl rfl) (pe_op op_cat (pv 1) (pe_lst (pa_cons (pe_callB call_isX (by rfl) T.n_isinstance (by decide +kernel) (pa_cons (pv 0) (pa_cons (pe_glob (v := .ref T.E_BadShare.C) rfl T.E_BadShare.g rfl) pa_nil))) (pa_cons (pe_callB call_isX (by rfl) T.n_isinstance (by decide +kernel) (pa_cons (pv 0) (pa_cons (pe_glob (v := .ref T.E_BadYard.C) rfl T.E_BadYard.g rfl) pa_nil))) (pa_cons (pe_callB call_isX (by rfl) T.n_isinstance (by decide +kernel) (pa_cons (pv 0) (pa_cons (pe_glob (v := .ref T.E_BadPlan.C) rfl T.E_BadPlan.g rfl) pa_nil))) pa_nil))))))
      (pss_cons (ps_set (i := 1) sc__law_kinds.nd rfl (Or.inl rfl) (pe_op op_cat (pv 1) (pe_lst (pa_cons (pe_callB call_isX (by rfl) T.n_isinstance (by decide +kernel) (pa_cons (pv 0) (pa_cons (pe_glob (v := .ref T.E_BadWorked.C) rfl T.E_BadWorked.g rfl) pa_nil))) (pa_cons (pe_callB call_isX (by rfl) T.n_isinstance (by decide +kernel) (pa_cons (pv 0) (pa_cons (pe_glob (v := .ref T.E_BadGroup.C) rfl T.E_BadGroup.g rfl) pa_nil))) (pa_cons (pe_callB call_isX (by rfl) T.n_isinstance (by decide +kernel) (pa_cons (pv 0) (pa_cons (pe_glob (v := .ref T.E_BadGroupOrder.C) rfl T.E_BadGroupOrder.g rfl) pa_nil))) pa_nil))))))
      (pss_cons (ps_set (i := 1) sc__law_kinds.nd rfl (Or.inl rfl) (pe_op op_cat (pv 1) (pe_lst (pa_cons (pe_callB call_isX (by rfl) T.n_isinstance (by decide +kernel) (pa_cons (pv 0) (pa_cons (pe_glob (v := .ref T.E_BadCondition.C) rfl T.E_BadCondition.g rfl) pa_nil))) (pa_cons (pe_callB call_isX (by rfl) T.n_isinstance (by decide +kernel) (pa_cons (pv 0) (pa_cons (pe_glob (v := .ref T.E_BadStanding.C) rfl T.E_BadStanding.g rfl) pa_nil))) (pa_cons (pe_callB call_isX (by rfl) T.n_isinstance (by decide +kernel) (pa_cons (pv 0) (pa_cons (pe_glob (v := .ref T.E_BadValue.C) rfl T.E_BadValue.g rfl) pa_nil))) pa_nil))))))
      (pss_cons (ps_set (i := 1) sc__law_kinds.nd rfl (Or.inl rfl) (pe_op op_cat (pv 1) (pe_lst (pa_cons (pe_callB call_isX (by rfl) T.n_isinstance (by decide +kernel) (pa_cons (pv 0) (pa_cons (pe_glob (v := .ref T.E_BadFirst.C) rfl T.E_BadFirst.g rfl) pa_nil))) (pa_cons (pe_callB call_isX (by rfl) T.n_isinstance (by decide +kernel) (pa_cons (pv 0) (pa_cons (pe_glob (v := .ref T.E_BadOutcome.C) rfl T.E_BadOutcome.g rfl) pa_nil))) (pa_cons (pe_callB call_isX (by rfl) T.n_isinstance (by decide +kernel) (pa_cons (pv 0) (pa_cons (pe_glob (v := .ref T.E_DayOver.C) rfl T.E_DayOver.g rfl) pa_nil))) pa_nil))))))
      (pss_cons (ps_set (i := 1) sc__law_kinds.nd rfl (Or.inl rfl) (pe_op op_cat (pv 1) (pe_lst (pa_cons (pe_callB call_isX (by rfl) T.n_isinstance (by decide +kernel) (pa_cons (pv 0) (pa_cons (pe_glob (v := .ref T.E_NoDeed.C) rfl T.E_NoDeed.g rfl) pa_nil))) (pa_cons (pe_callB call_isX (by rfl) T.n_isinstance (by decide +kernel) (pa_cons (pv 0) (pa_cons (pe_glob (v := .ref T.E_BadMark.C) rfl T.E_BadMark.g rfl) pa_nil))) (pa_cons (pe_callB call_isX (by rfl) T.n_isinstance (by decide +kernel) (pa_cons (pv 0) (pa_cons (pe_glob (v := .ref T.E_BadLine.C) rfl T.E_BadLine.g rfl) pa_nil))) pa_nil))))))
      (pss_one (ps_ret (pe_op op_cat (pv 1) (pe_lst (pa_cons (pe_callB call_isX (by rfl) T.n_isinstance (by decide +kernel) (pa_cons (pv 0) (pa_cons (pe_glob (v := .ref T.E_NoDay.C) rfl T.E_NoDay.g rfl) pa_nil))) (pa_cons (pe_callB call_isX (by rfl) T.n_isinstance (by decide +kernel) (pa_cons (pv 0) (pa_cons (pe_glob (v := .ref T.E_TooMany.C) rfl T.E_TooMany.g rfl) pa_nil))) pa_nil)))))))))))))))))))), ?_⟩
    refine n_seq ?_
    refine s_asgL (el_lst (vs := (cc1 T).map fun B => .bl (decide (C = B))) (ea_cons (ev_isX rfl he X.ec ref_rel (kit_any X T.E_BadFraction.x)) (ea_cons (ev_isX rfl he X.ec ref_rel (kit_any X T.E_BadPair.x)) (ea_cons (ev_isX rfl he X.ec ref_rel (kit_any X T.E_BadPairs.x)) (ea_nil)))) (by show 3 ≤ 100000; decide)) fun p1 H1 _ e1 q1 => ?_
    have E1 := e1
    dsimp only
    refine n_seq ?_
    refine s_asgL (el_cat2 (i := 1) (xs := (cc1 T).map fun B => .bl (decide (C = B))) (ys := (clK2 T).map fun B => .bl (decide (C = B))) rfl q1 (ea_cons (ev_isX rfl (he.ex E1) X.ec ref_rel (kit_any X T.E_BadTerm.x)) (ea_cons (ev_isX rfl (he.ex E1) X.ec ref_rel (kit_any X T.E_BadMix.x)) (ea_cons (ev_isX rfl (he.ex E1) X.ec ref_rel (kit_any X T.E_BadPlace.x)) (ea_nil)))) (by show 6 ≤ 900; decide)) fun p2 H2 _ e2 q2 => ?_
    have E2 := E1.trans e2
    rw [← List.map_append] at q2
    dsimp only
    refine n_seq ?_
    refine s_asgL (el_cat2 (i := 1) (xs := (cc2 T).map fun B => .bl (decide (C = B))) (ys := (clK3 T).map fun B => .bl (decide (C = B))) rfl q2 (ea_cons (ev_isX rfl (he.ex E2) X.ec ref_rel (kit_any X T.E_BadText.x)) (ea_cons (ev_isX rfl (he.ex E2) X.ec ref_rel (kit_any X T.E_BadLadder.x)) (ea_cons (ev_isX rfl (he.ex E2) X.ec ref_rel (kit_any X T.E_BadLadders.x)) (ea_nil)))) (by show 9 ≤ 900; decide)) fun p3 H3 _ e3 q3 => ?_
    have E3 := E2.trans e3
    rw [← List.map_append] at q3
    dsimp only
    refine n_seq ?_
    refine s_asgL (el_cat2 (i := 1) (xs := (cc3 T).map fun B => .bl (decide (C = B))) (ys := (clK4 T).map fun B => .bl (decide (C = B))) rfl q3 (ea_cons (ev_isX rfl (he.ex E3) X.ec ref_rel (kit_any X T.E_NoFrame.x)) (ea_cons (ev_isX rfl (he.ex E3) X.ec ref_rel (kit_any X T.E_BadHabit.x)) (ea_cons (ev_isX rfl (he.ex E3) X.ec ref_rel (kit_any X T.E_BadChoice.x)) (ea_nil)))) (by show 12 ≤ 900; decide)) fun p4 H4 _ e4 q4 => ?_
    have E4 := E3.trans e4
    rw [← List.map_append] at q4
    dsimp only
    refine n_seq ?_
    refine s_asgL (el_cat2 (i := 1) (xs := (cc4 T).map fun B => .bl (decide (C = B))) (ys := (clK5 T).map fun B => .bl (decide (C = B))) rfl q4 (ea_cons (ev_isX rfl (he.ex E4) X.ec ref_rel (kit_any X T.E_BadCourse.x)) (ea_cons (ev_isX rfl (he.ex E4) X.ec ref_rel (kit_any X T.E_BadTerms.x)) (ea_cons (ev_isX rfl (he.ex E4) X.ec ref_rel (kit_any X T.E_NoFit.x)) (ea_nil)))) (by show 15 ≤ 900; decide)) fun p5 H5 _ e5 q5 => ?_
    have E5 := E4.trans e5
    rw [← List.map_append] at q5
    dsimp only
    refine n_seq ?_
    refine s_asgL (el_cat2 (i := 1) (xs := (cc5 T).map fun B => .bl (decide (C = B))) (ys := (clK6 T).map fun B => .bl (decide (C = B))) rfl q5 (ea_cons (ev_isX rfl (he.ex E5) X.ec ref_rel (kit_any X T.E_NoCompany.x)) (ea_cons (ev_isX rfl (he.ex E5) X.ec ref_rel (kit_any X T.E_BadWays.x)) (ea_cons (ev_isX rfl (he.ex E5) X.ec ref_rel (kit_any X T.E_BadNumber.x)) (ea_nil)))) (by show 18 ≤ 900; decide)) fun p6 H6 _ e6 q6 => ?_
    have E6 := E5.trans e6
    rw [← List.map_append] at q6
    dsimp only
    refine n_seq ?_
    refine s_asgL (el_cat2 (i := 1) (xs := (cc6 T).map fun B => .bl (decide (C = B))) (ys := (clK7 T).map fun B => .bl (decide (C = B))) rfl q6 (ea_cons (ev_isX rfl (he.ex E6) X.ec ref_rel (kit_any X T.E_BadForest.x)) (ea_cons (ev_isX rfl (he.ex E6) X.ec ref_rel (kit_any X T.E_BadOrder.x)) (ea_cons (ev_isX rfl (he.ex E6) X.ec ref_rel (kit_any X T.E_BadJoin.x)) (ea_nil)))) (by show 21 ≤ 900; decide)) fun p7 H7 _ e7 q7 => ?_
    have E7 := E6.trans e7
    rw [← List.map_append] at q7
    dsimp only
    refine n_seq ?_
    refine s_asgL (el_cat2 (i := 1) (xs := (cc7 T).map fun B => .bl (decide (C = B))) (ys := (clK8 T).map fun B => .bl (decide (C = B))) rfl q7 (ea_cons (ev_isX rfl (he.ex E7) X.ec ref_rel (kit_any X T.E_BadRow.x)) (ea_cons (ev_isX rfl (he.ex E7) X.ec ref_rel (kit_any X T.E_BadTable.x)) (ea_cons (ev_isX rfl (he.ex E7) X.ec ref_rel (kit_any X T.E_BadBox.x)) (ea_nil)))) (by show 24 ≤ 900; decide)) fun p8 H8 _ e8 q8 => ?_
    have E8 := E7.trans e8
    rw [← List.map_append] at q8
    dsimp only
    refine n_seq ?_
    refine s_asgL (el_cat2 (i := 1) (xs := (cc8 T).map fun B => .bl (decide (C = B))) (ys := (clK9 T).map fun B => .bl (decide (C = B))) rfl q8 (ea_cons (ev_isX rfl (he.ex E8) X.ec ref_rel (kit_any X T.E_BadBoxes.x)) (ea_cons (ev_isX rfl (he.ex E8) X.ec ref_rel (kit_any X T.E_BadSeen.x)) (ea_cons (ev_isX rfl (he.ex E8) X.ec ref_rel (kit_any X T.E_BadProject.x)) (ea_nil)))) (by show 27 ≤ 900; decide)) fun p9 H9 _ e9 q9 => ?_
    have E9 := E8.trans e9
    rw [← List.map_append] at q9
    dsimp only
    refine n_seq ?_
    refine s_asgL (el_cat2 (i := 1) (xs := (cc9 T).map fun B => .bl (decide (C = B))) (ys := (clK10 T).map fun B => .bl (decide (C = B))) rfl q9 (ea_cons (ev_isX rfl (he.ex E9) X.ec ref_rel (kit_any X T.E_BadShare.x)) (ea_cons (ev_isX rfl (he.ex E9) X.ec ref_rel (kit_any X T.E_BadYard.x)) (ea_cons (ev_isX rfl (he.ex E9) X.ec ref_rel (kit_any X T.E_BadPlan.x)) (ea_nil)))) (by show 30 ≤ 900; decide)) fun p10 H10 _ e10 q10 => ?_
    have E10 := E9.trans e10
    rw [← List.map_append] at q10
    dsimp only
    refine n_seq ?_
    refine s_asgL (el_cat2 (i := 1) (xs := (cc10 T).map fun B => .bl (decide (C = B))) (ys := (clK11 T).map fun B => .bl (decide (C = B))) rfl q10 (ea_cons (ev_isX rfl (he.ex E10) X.ec ref_rel (kit_any X T.E_BadWorked.x)) (ea_cons (ev_isX rfl (he.ex E10) X.ec ref_rel (kit_any X T.E_BadGroup.x)) (ea_cons (ev_isX rfl (he.ex E10) X.ec ref_rel (kit_any X T.E_BadGroupOrder.x)) (ea_nil)))) (by show 33 ≤ 900; decide)) fun p11 H11 _ e11 q11 => ?_
    have E11 := E10.trans e11
    rw [← List.map_append] at q11
    dsimp only
    refine n_seq ?_
    refine s_asgL (el_cat2 (i := 1) (xs := (cc11 T).map fun B => .bl (decide (C = B))) (ys := (clK12 T).map fun B => .bl (decide (C = B))) rfl q11 (ea_cons (ev_isX rfl (he.ex E11) X.ec ref_rel (kit_any X T.E_BadCondition.x)) (ea_cons (ev_isX rfl (he.ex E11) X.ec ref_rel (kit_any X T.E_BadStanding.x)) (ea_cons (ev_isX rfl (he.ex E11) X.ec ref_rel (kit_any X T.E_BadValue.x)) (ea_nil)))) (by show 36 ≤ 900; decide)) fun p12 H12 _ e12 q12 => ?_
    have E12 := E11.trans e12
    rw [← List.map_append] at q12
    dsimp only
    refine n_seq ?_
    refine s_asgL (el_cat2 (i := 1) (xs := (cc12 T).map fun B => .bl (decide (C = B))) (ys := (clK13 T).map fun B => .bl (decide (C = B))) rfl q12 (ea_cons (ev_isX rfl (he.ex E12) X.ec ref_rel (kit_any X T.E_BadFirst.x)) (ea_cons (ev_isX rfl (he.ex E12) X.ec ref_rel (kit_any X T.E_BadOutcome.x)) (ea_cons (ev_isX rfl (he.ex E12) X.ec ref_rel (kit_any X T.E_DayOver.x)) (ea_nil)))) (by show 39 ≤ 900; decide)) fun p13 H13 _ e13 q13 => ?_
    have E13 := E12.trans e13
    rw [← List.map_append] at q13
    dsimp only
    refine n_seq ?_
    refine s_asgL (el_cat2 (i := 1) (xs := (cc13 T).map fun B => .bl (decide (C = B))) (ys := (clK14 T).map fun B => .bl (decide (C = B))) rfl q13 (ea_cons (ev_isX rfl (he.ex E13) X.ec ref_rel (kit_any X T.E_NoDeed.x)) (ea_cons (ev_isX rfl (he.ex E13) X.ec ref_rel (kit_any X T.E_BadMark.x)) (ea_cons (ev_isX rfl (he.ex E13) X.ec ref_rel (kit_any X T.E_BadLine.x)) (ea_nil)))) (by show 42 ≤ 900; decide)) fun p14 H14 _ e14 q14 => ?_
    have E14 := E13.trans e14
    rw [← List.map_append] at q14
    dsimp only
    refine s_retL (el_cat2 (i := 1) (xs := (cc14 T).map fun B => .bl (decide (C = B))) (ys := (clK15 T).map fun B => .bl (decide (C = B))) rfl q14 (ea_cons (ev_isX rfl (he.ex E14) X.ec ref_rel (kit_any X T.E_NoDay.x)) (ea_cons (ev_isX rfl (he.ex E14) X.ec ref_rel (kit_any X T.E_TooMany.x)) (ea_nil))) (by show 44 ≤ 900; decide)) fun p15 H15 _ e15 q15 => ?_
    have E15 := E14.trans e15
    rw [← List.map_append] at q15
    rw [cls_cc] at k
    exact k p15 H15 E15 q15
end
/-! ### data that is drawn, texts that are due -/
section
variable {K : PySem.W.Frag} {p : Addr} {σ : L2.St} {H H' : Hp} {te ta tb : TE} {v : V} {d : PyData} {ds : List PyData} {tt : TT}
mutual
theorem Dq.exb {xs : List V} (hp : H p = some (.lst xs)) (e : ExB p H H') : ∀ (d : PyData) (v : V), Dq K p H v d → Dq K p H' v d
  | _, _, .non => .non
  | _, _, .bl b => .bl b
  | _, _, .int i => .int i
  | _, _, .str x => .str x
  | _, _, .lst n m h hs => .lst n m (e _ _ n h) (DqAll.exb hp e _ _ hs)
  | _, _, .tup h hs => .tup (tup_lst hp e h) (DqAll.exb hp e _ _ hs)
  | _, _, .emp h => .emp (e _ _ (by rintro rfl; rw [hp] at h; cases h) h)
theorem DqAll.exb {xs : List V} (hp : H p = some (.lst xs)) (e : ExB p H H') : ∀ (ds : List PyData) (vs : List V), DqAll K p H vs ds → DqAll K p H' vs ds
  | _, _, .nil => .nil
  | _, _, .cons h hs => .cons (Dq.exb hp e _ _ h) (DqAll.exb hp e _ _ hs)
end
def EvD (K : PySem.W.Frag) (p : Addr) (te : TE) (σ : L2.St) (H : Hp) (d : PyData) : Prop := EvP te σ H fun v H => Dq K p H v d
def EvDs (K : PySem.W.Frag) (p : Addr) (ta : TA) (σ : L2.St) (H : Hp) (ds : List PyData) : Prop := ∀ H1, Ex H H1 → ∀ Q : List V → Hp → Prop, (∀ vs H2, Ex H1 H2 → DqAll K p H2 vs ds → Q vs H2) → ta σ H1 Q
theorem ed_ev (h : Ev te σ H v) (hd : ∀ H, Dq K p H v d) : EvD K p te σ H d := fun H1 e Q k => h H1 e Q fun H2 e2 => k v H2 e2 (hd H2)
theorem ed_var {i : Nat} (h : σ[i]? = some (some v)) (hd : Dq K p H v d) : EvD K p (tVar i) σ H d := fun H1 e _ k => ⟨v, h, k v H1 (Ex.refl H1) (Dq.ex e _ _ hd)⟩
theorem ed_int {n : Int} : EvD K p (tC (.int n)) σ H (.int n) := ed_ev ev_c fun _ => .int n
theorem ed_neg {n : Int} : EvD K p (tUn (rU fun i => .int (-i)) (tC (.int n))) σ H (.int (-n)) := ed_ev (ev_neg ev_c) fun _ => .int _
theorem ed_bool {b : Bool} : EvD K p (tC (.bl b)) σ H (.bool b) := ed_ev ev_c fun _ => .bl b
theorem ed_none : EvD K p (tC .non) σ H .none := ed_ev ev_c fun _ => .non
theorem ed_str {x : Str} : EvD K p (tC (.str x)) σ H (.str x) := ed_ev ev_c fun _ => .str x
theorem ed_fr {b : Nat} {q : Rat} (h : EvP te σ H (Fr K b q)) : EvD K p te σ H (frd q) := fun H1 e Q k => h H1 e Q fun v H2 e2 f => k v H2 e2 f.dq
theorem eds_nil : EvDs K p tNil σ H [] := fun H1 e Q k => k [] H1 (Ex.refl H1) .nil
theorem eds_cons {tr : TA} (h : EvD K p te σ H d) (hs : EvDs K p tr σ H ds) : EvDs K p (tCons te tr) σ H (d :: ds) := fun H1 e Q k =>
  h H1 e _ fun v H2 e2 q => hs H2 (e.trans e2) _ fun vs H3 e3 qs => k _ H3 (e2.trans e3) (.cons (Dq.ex e3 _ _ q) qs)
theorem ed_tup {ta : TA} (h : EvDs K p ta σ H ds) (hl : ds.length ≤ 1000) : EvD K p (tTup ta) σ H (.tuple ds) := fun H1 e Q k =>
  h H1 e _ fun vs H2 e2 qs => ⟨Nat.le_of_lt (small1000 (by rw [qs.len]; exact hl)), fun a fa => k _ _ (e2.trans (Ex.new fa)) (.tup (SqT.of upd_same) (DqAll.ex (Ex.new fa) _ _ qs))⟩
theorem ed_lst {ta : TA} {o : HO} (hp : H p = some o) (h : EvDs K p ta σ H ds) (hl : ds.length ≤ 1000) : EvD K p (tLstN ta) σ H (.list ds) := fun H1 e Q k =>
  h H1 e _ fun vs H2 e2 qs => ⟨Nat.le_of_lt (small1000 (by rw [qs.len]; exact hl)), fun a fa fm => k _ _ (e2.trans (Ex.new fa)) (.lst (ne_of_none (e2 _ _ (e _ _ hp)) fa).symm fm upd_same (DqAll.ex (Ex.new fa) _ _ qs))⟩
theorem ed_emp : EvD K p tDNewK σ H (.dict []) := fun H1 e Q k a fa => k _ _ (Ex.new fa) (.emp upd_same)
theorem ed_if {b : Bool} (h : EvT tt σ H b) (h1 : b = true → EvD K p ta σ H d) (h2 : b = false → EvD K p tb σ H d) : EvD K p (tIf tt ta tb) σ H d := fun H1 e Q k => h H1 e _ fun H2 e2 => by
  cases b with
  | true =>
    refine iteT ?_
    exact h1 rfl H2 (e.trans e2) Q fun v H3 e3 q => k v H3 (e2.trans e3) q
  | false =>
    refine iteF ?_
    exact h2 rfl H2 (e.trans e2) Q fun v H3 e3 q => k v H3 (e2.trans e3) q
/-- repr of data -/
theorem ev_repr {c e : Nat} (h : EvD K p te σ H d) (n : Nc c e d) (hc : c ≤ 1000000) (he : e ≤ 60) : Ev (tCB (rRepr K) (tCons te tNil)) σ H (.str d.shown) := fun H1 a Q k =>
  h H1 a _ fun v H2 e2 q => ⟨v, d, p, rfl, .inl q, n.sh, Nat.le_trans n.dp he, Nat.le_trans (n.len hc) (Nat.le_trans hc (by decide)), k H2 e2⟩
theorem ev_cat {x y : Str} (ha : Ev ta σ H (.str x)) (hb : Ev tb σ H (.str y)) (h : x.length + y.length ≤ sizeLine) : Ev (tOp (fun x y H Q => ∃ i j, x = .str i ∧ y = .str j ∧ i.length + j.length ≤ sizeLine ∧ Q (.str (i ++ j)) H) ta tb) σ H (.str (x ++ y)) :=
  ev_op ha hb fun H1 _ _ k => ⟨x, y, rfl, rfl, h, k H1 (Ex.refl H1)⟩
theorem ev_bad {c e : Nat} (h : EvD K p te σ H d) (n : Nc c e d) (hc : c ≤ 1000000) (he : e ≤ 60) : Ev (tOp (fun x y H Q => ∃ i j, x = .str i ∧ y = .str j ∧ i.length + j.length ≤ sizeLine ∧ Q (.str (i ++ j)) H) (tC (.str "bad")) (tCB (rRepr K) (tCons te tNil))) σ H (.str ("bad" ++ d.shown)) :=
  ev_cat ev_c (ev_repr h n hc he) (by
    have h1 := n.len hc
    have h2 : (("bad" : String) : Str).length = 3 := by decide
    have h3 : 1000003 ≤ sizeLine := by decide
    omega)
end
/-! ### the menus -/
def tI (n : Int) : TE := tC (.int n)
def tN (n : Int) : TE := tUn (rU fun i => .int (-i)) (tC (.int n))
def tP (a b : TE) : TE := tTup (tCons a (tCons b tNil))
def tA : TA := tCons (tP (tI 0) (tI 1)) (tCons (tP (tI 1) (tI 1)) (tCons (tP (tI 2) (tI 1)) (tCons (tP (tI 3) (tI 1)) (tCons (tP (tI 1) (tI 2)) (tCons (tP (tN 1) (tI 1)) (tCons (tP (tN 2) (tI 1)) (tCons (tP (tI 5) (tI 3)) (tCons (tP (tN 1) (tI 2)) (tCons (tP (tI 9) (tI 1)) tNil)))))))))
def dA : List PyData := [.tuple [.int 0, .int 1], .tuple [.int 1, .int 1], .tuple [.int 2, .int 1], .tuple [.int 3, .int 1], .tuple [.int 1, .int 2], .tuple [.int (-1), .int 1], .tuple [.int (-2), .int 1], .tuple [.int 5, .int 3], .tuple [.int (-1), .int 2], .tuple [.int 9, .int 1]]
theorem goodA : ∀ d ∈ dA, frB d = true ∧ Bd 4 (frQ d) := by
  unfold Bd
  decide +kernel
section
variable {K : PySem.W.Frag} {p : Addr} {σ : L2.St} {H : Hp} {a b : TE} {d e : PyData} {v : V} {q r : Rat}
theorem ed_I {n : Int} : EvD K p (tI n) σ H (.int n) := ed_int
theorem ed_N {n : Int} : EvD K p (tN n) σ H (.int (-n)) := ed_neg
theorem ed_P (h : EvD K p a σ H d) (g : EvD K p b σ H e) : EvD K p (tP a b) σ H (.tuple [d, e]) := ed_tup (eds_cons h (eds_cons g eds_nil)) (by show 2 ≤ 1000; decide)
theorem mA : EvDs K p tA σ H dA := by
  unfold tA dA
  exact eds_cons (ed_P ed_I ed_I) (eds_cons (ed_P ed_I ed_I) (eds_cons (ed_P ed_I ed_I) (eds_cons (ed_P ed_I ed_I) (eds_cons (ed_P ed_I ed_I) (eds_cons (ed_P ed_N ed_I) (eds_cons (ed_P ed_N ed_I) (eds_cons (ed_P ed_I ed_I) (eds_cons (ed_P ed_N ed_I) (eds_cons (ed_P ed_I ed_I) eds_nil)))))))))
/-- a written list of data -/
def LstD (K : PySem.W.Frag) (p : Addr) (ds : List PyData) (v : V) (H : Hp) : Prop := ∃ (l : Addr) (vs : List V), v = .ref l ∧ l ≠ p ∧ l ≠ sysModules ∧ H l = some (.lst vs) ∧ DqAll K p H vs ds
def LstD0 (K : PySem.W.Frag) (p : Addr) (ds : List PyData) (v : V) (H : Hp) : Prop := ∃ (l : Addr) (vs : List V), v = .ref l ∧ l ≠ p ∧ H l = some (.lst vs) ∧ DqAll K p H vs ds
theorem LstD.to0 {ds : List PyData} (h : LstD K p ds v H) : LstD0 K p ds v H := by
  obtain ⟨l, vs, rfl, n, m, h, q⟩ := h
  exact ⟨l, vs, rfl, n, h, q⟩
theorem LstD.ex {ds : List PyData} {H' : Hp} (e : Ex H H') (h : LstD K p ds v H) : LstD K p ds v H' := by
  obtain ⟨l, vs, rfl, n, m, h, q⟩ := h
  exact ⟨l, vs, rfl, n, m, e _ _ h, DqAll.ex e _ _ q⟩
theorem el_lst {tm : TA} {ds : List PyData} {o : HO} (hh : H p = some o) (hm : EvDs K p tm σ H ds) (hl : ds.length ≤ 900) : EvP (tLstN tm) σ H (LstD K p ds) := fun H1 e Q k =>
  hm H1 e _ fun vs H2 e2 qs => ⟨Nat.le_of_lt (small1000 (by rw [qs.len]; omega)), fun l fl fm => k _ _ (e2.trans (Ex.new fl)) ⟨l, vs, rfl, (ne_of_none (e2 _ _ (e _ _ hh)) fl).symm, fm, upd_same, DqAll.ex (Ex.new fl) _ _ qs⟩⟩
theorem el_cat {tm : TA} {ds es : List PyData} {o : HO} {i : Nat} (hh : H p = some o) (h : σ[i]? = some (some v)) (hv : LstD0 K p ds v H) (hm : EvDs K p tm σ H es) (hl : ds.length + es.length ≤ 900) : EvP (tOp rCat (tVar i) (tLstN tm)) σ H (fun w H' => LstD0 K p (ds ++ es) w H') := fun H1 e Q k => by
  obtain ⟨l, vs, rfl, n, hlv, q1⟩ := hv
  refine ⟨.ref l, h, ?_⟩
  refine hm H1 e _ fun ws H2 e2 q2 => ?_
  have lv : vs.length = ds.length := q1.len
  have lw : ws.length = es.length := q2.len
  refine ⟨Nat.le_of_lt (small1000 (by omega)), fun l2 f2 _ => ?_⟩
  have h2 := e2 _ _ (e _ _ hlv)
  have nl : l ≠ l2 := ne_of_none h2 f2
  refine ⟨l, l2, vs, ws, rfl, rfl, by rw [upd_ne nl]; exact h2, upd_same, Nat.le_of_lt (small1000 (by omega)), fun l3 f3 => ?_⟩
  have x2 := Ex.new (o := .lst ws) f2
  have x3 := Ex.new (o := .lst (vs ++ ws)) f3
  have np : l3 ≠ p := (ne_of_none (x2 _ _ (e2 _ _ (e _ _ hh))) f3).symm
  exact k _ _ (e2.trans (x2.trans x3)) ⟨l3, vs ++ ws, rfl, np, upd_same, (DqAll.ex (e.trans (e2.trans (x2.trans x3))) _ _ q1).append (DqAll.ex (x2.trans x3) _ _ q2)⟩
end
/-! ### tests that come out false -/
section
variable {K : PySem.W.Frag} {σ : L2.St} {H : Hp} {D : Ends} {t : TT} {tu tw : TS}
theorem yes_of {Q : Bool → Hp → Prop} (h : Q true H) : tYes σ H Q := h
theorem s_skip (h : EvT t σ H false) (k : ∀ H1, Ex H H1 → D.nx σ H1) : tIfS t tu tNext D σ H := s_if h (fun z => nomatch z) fun _ H1 e => k H1 e
theorem dec_ne {x y : Int} (h : x = y) : (!decide (V.int x = V.int y)) = false := by subst h; simp
theorem dec_neQ {x y : Rat} (h : x = y) : (!decide (x = y)) = false := by subst h; simp
theorem or_ff {a b : Bool} (h : a = false) (h' : b = false) : (a || b) = false := by subst h h'; rfl
/-- the test «two fractions differ» of two that are the same -/
theorem et_neF {ta tb : TE} {b c : Nat} {q r : Rat} (ha : EvP ta σ H (Fr K b q)) (hb : EvP tb σ H (Fr K c r)) (h : q = r) : EvT (tTest (tOp (rNeD K) ta tb)) σ H false := et_is (et_test (ev_neD ha hb)) (dec_neQ h)
theorem et_orF {t u : TT} (h1 : EvT t σ H false) (h2 : EvT u σ H false) : EvT (tOr t u) σ H false := et_is (et_or h1 fun _ => h2) rfl
/-- a written pair -/
theorem ep_lit {x y : Int} {q : Rat} {b : Nat} (e1 : x = q.num) (e2 : y = (q.den : Int)) (bd : Bd b q) : EvP (tTup (tCons (tC (.int x)) (tCons (tC (.int y)) tNil))) σ H (Fr K b q) := ep_tup ev_c ev_c e1 e2 bd
theorem ep_01 : EvP (tTup (tCons (tC (.int 0)) (tCons (tC (.int 1)) tNil))) σ H (Fr K 1 0) := ep_lit rfl rfl ⟨by decide, by decide⟩
end
/-! ### the law k00 -/
def nameOf (K : PySem.W.Frag) (C : Addr) : Option Str := (PySem.W.clsIn K C).map (·.name)
theorem ErrX.nameOf {K : PySem.W.Frag} {C CM f : Addr} {nm : Str} (h : ErrX K C CM f nm) : nameOf K C = some nm := by
  obtain ⟨cd, h1, h2, _⟩ := h.named
  unfold Jf.nameOf
  rw [h1, ← h2]
  rfl
theorem nodup_map {α β : Type} (f : α → β) : ∀ {l : List α}, (l.map f).Nodup → l.Nodup
  | [], _ => List.nodup_nil
  | a :: l, h => by
    rw [List.map_cons, List.nodup_cons] at h
    rw [List.nodup_cons]
    exact ⟨fun m => h.1 (List.mem_map_of_mem m), nodup_map f h.2⟩
theorem count_one {C : Addr} : ∀ {l : List Addr}, l.Nodup → C ∈ l → (l.map fun B => decide (C = B)).count true = 1
  | B :: l, hn, hm => by
    rw [List.nodup_cons] at hn
    rw [List.map_cons, List.count_cons]
    by_cases h : C = B
    · have z : (l.map fun B => decide (C = B)).count true = 0 := by
        rw [List.count_eq_zero]
        intro m
        obtain ⟨D, hD, e⟩ := List.mem_map.mp m
        have e' : C = D := of_decide_eq_true e
        exact hn.1 (by rw [← h, e']; exact hD)
      rw [z, decide_eq_true h]
      rfl
    · rcases List.mem_cons.mp hm with e | e
      · exact absurd e h
      · rw [count_one hn.2 e, decide_eq_false h]
        rfl
def t10 : TE := tOp (rI CPow fun i j => .int (i ^ j.toNat)) (tC (.int 10)) (tC (.int 20))
def tSome : TA := tCons (tC .non) (tCons (tI 0) (tCons (tN 1) (tCons (tC (.bl true)) (tCons t10 (tCons (tC (.str "x")) (tCons (tTup tNil) (tCons (tP (tI 1) (tI 2)) (tCons (tLstN tNil) (tCons (tLstN (tCons (tI 1) (tCons (tLstN (tCons (tI 2) tNil)) tNil))) (tCons (tP (tP (tI 0) (tI 1)) (tP (tI 0) (tI 1))) (tCons (tTup (tCons (tC (.str "end")) tNil)) tNil)))))))))))
def dSome : List PyData := [.none, .int 0, .int (-1), .bool true, .int (10 ^ (20 : Int).toNat), .str "x", .tuple [], .tuple [.int 1, .int 2], .list [], .list [.int 1, .list [.int 2]], .tuple [.tuple [.int 0, .int 1], .tuple [.int 0, .int 1]], .tuple [.str "end"]]
section
variable {K : PySem.W.Frag} {p : Addr} {σ : L2.St} {H : Hp}
theorem ev_10 : Ev t10 σ H (.int (10 ^ (20 : Int).toNat)) := fun H1 e Q k => ⟨10, 20, rfl, rfl, ⟨by decide, by decide, by decide⟩, k H1 (Ex.refl H1)⟩
theorem mSome {o : HO} (hh : H p = some o) : EvDs K p tSome σ H dSome := by
  unfold tSome dSome
  exact eds_cons ed_none (eds_cons ed_I (eds_cons ed_N (eds_cons ed_bool (eds_cons (ed_ev ev_10 fun _ => .int _) (eds_cons ed_str (eds_cons (ed_tup eds_nil (by show 0 ≤ 1000; decide)) (eds_cons (ed_P ed_I ed_I) (eds_cons (ed_lst hh eds_nil (by show 0 ≤ 1000; decide)) (eds_cons (ed_lst hh (eds_cons ed_I (eds_cons (ed_lst hh (eds_cons ed_I eds_nil) (by show 1 ≤ 1000; decide)) eds_nil)) (by show 2 ≤ 1000; decide)) (eds_cons (ed_P (ed_P ed_I ed_I) (ed_P ed_I ed_I)) (eds_cons (ed_tup (eds_cons ed_str eds_nil) (by show 1 ≤ 1000; decide)) eds_nil)))))))))))
theorem ncSome : ∀ d ∈ dSome, Nc 1000 5 d := by
  have i : ∀ n : Int, n.natAbs < 2 ^ 100 → Nc 102 0 (.int n) := fun n h => nc_int (b := 100) h (by decide) (by decide)
  have s1 : Nc 20 0 (.str "x") := nc_str (by decide +kernel)
  have s2 : Nc 20 0 (.str "end") := nc_str (by decide +kernel)
  intro d hd
  simp only [dSome, List.mem_cons, List.not_mem_nil, or_false] at hd
  rcases hd with rfl | rfl | rfl | rfl | rfl | rfl | rfl | rfl | rfl | rfl | rfl | rfl
  · exact nc_none.mono (by decide) (by decide)
  · exact (i _ (by decide)).mono (by decide) (by decide)
  · exact (i _ (by decide)).mono (by decide) (by decide)
  · exact (nc_bool _).mono (by decide) (by decide)
  · exact (i _ (by decide)).mono (by decide) (by decide)
  · exact s1.mono (by decide) (by decide)
  · exact (nc_tup (nca_nil (e := 0))).mono (by decide) (by decide)
  · exact (nc_tup (nca_cons (i _ (by decide)) (nca_cons (i _ (by decide)) nca_nil))).mono (by decide) (by decide)
  · exact (nc_lst (nca_nil (e := 0))).mono (by decide) (by decide)
  · exact (nc_lst (nca_cons ((i _ (by decide)).mono (Nat.le_refl _) (by decide : 0 ≤ 1)) (nca_cons (nc_lst (nca_cons (i _ (by decide)) nca_nil)) nca_nil))).mono (by decide) (by decide)
  · exact (nc_tup (nca_cons (nc_tup (nca_cons (i _ (by decide)) (nca_cons (i _ (by decide)) nca_nil))) (nca_cons (nc_tup (nca_cons (i _ (by decide)) (nca_cons (i _ (by decide)) nca_nil))) nca_nil))).mono (by decide) (by decide)
  · exact (nc_tup (nca_cons s2 nca_nil)).mono (by decide) (by decide)
end
section
variable {P : Program} {w : World} {K : PySem.W.Frag} {mg : Str → Option Value} {base : Heap}
/-- each of them is what it says -/
theorem cls_x (T : Txt K mg) : ∀ C ∈ clsAll T, ∃ f nm, ErrX K C T.M.C f nm := by
  simp only [clsAll, cl1, cl2, cl3, cl4, cl5, cl6, cl7, cl8, cl9, List.cons_append, List.nil_append, List.mem_cons, List.not_mem_nil, or_false]
  intro C h
  rcases h with rfl | rfl | rfl | rfl | rfl | rfl | rfl | rfl | rfl | rfl | rfl | rfl | rfl | rfl | rfl | rfl | rfl | rfl | rfl | rfl | rfl | rfl | rfl | rfl | rfl | rfl | rfl | rfl | rfl | rfl | rfl | rfl | rfl | rfl | rfl | rfl | rfl | rfl | rfl | rfl | rfl | rfl | rfl | rfl
  all_goals first | exact ⟨_, _, T.E_BadFraction.x⟩ | exact ⟨_, _, T.E_BadPair.x⟩ | exact ⟨_, _, T.E_BadPairs.x⟩ | exact ⟨_, _, T.E_BadTerm.x⟩ | exact ⟨_, _, T.E_BadMix.x⟩ | exact ⟨_, _, T.E_BadPlace.x⟩ | exact ⟨_, _, T.E_BadText.x⟩ | exact ⟨_, _, T.E_BadLadder.x⟩ | exact ⟨_, _, T.E_BadLadders.x⟩ | exact ⟨_, _, T.E_NoFrame.x⟩ | exact ⟨_, _, T.E_BadHabit.x⟩ | exact ⟨_, _, T.E_BadChoice.x⟩ | exact ⟨_, _, T.E_BadCourse.x⟩ | exact ⟨_, _, T.E_BadTerms.x⟩ | exact ⟨_, _, T.E_NoFit.x⟩ | exact ⟨_, _, T.E_NoCompany.x⟩ | exact ⟨_, _, T.E_BadWays.x⟩ | exact ⟨_, _, T.E_BadNumber.x⟩ | exact ⟨_, _, T.E_BadForest.x⟩ | exact ⟨_, _, T.E_BadOrder.x⟩ | exact ⟨_, _, T.E_BadJoin.x⟩ | exact ⟨_, _, T.E_BadRow.x⟩ | exact ⟨_, _, T.E_BadTable.x⟩ | exact ⟨_, _, T.E_BadBox.x⟩ | exact ⟨_, _, T.E_BadBoxes.x⟩ | exact ⟨_, _, T.E_BadSeen.x⟩ | exact ⟨_, _, T.E_BadProject.x⟩ | exact ⟨_, _, T.E_BadShare.x⟩ | exact ⟨_, _, T.E_BadYard.x⟩ | exact ⟨_, _, T.E_BadPlan.x⟩ | exact ⟨_, _, T.E_BadWorked.x⟩ | exact ⟨_, _, T.E_BadGroup.x⟩ | exact ⟨_, _, T.E_BadGroupOrder.x⟩ | exact ⟨_, _, T.E_BadCondition.x⟩ | exact ⟨_, _, T.E_BadStanding.x⟩ | exact ⟨_, _, T.E_BadValue.x⟩ | exact ⟨_, _, T.E_BadFirst.x⟩ | exact ⟨_, _, T.E_BadOutcome.x⟩ | exact ⟨_, _, T.E_DayOver.x⟩ | exact ⟨_, _, T.E_NoDeed.x⟩ | exact ⟨_, _, T.E_BadMark.x⟩ | exact ⟨_, _, T.E_BadLine.x⟩ | exact ⟨_, _, T.E_NoDay.x⟩ | exact ⟨_, _, T.E_TooMany.x⟩
theorem cls_nodup (T : Txt K mg) : (clsAll T).Nodup := by
  apply nodup_map (nameOf K)
  simp only [clsAll, cl1, cl2, cl3, cl4, cl5, cl6, cl7, cl8, cl9, List.cons_append, List.nil_append, List.map_cons, List.map_nil]
  rw [T.E_BadFraction.x.nameOf, T.E_BadPair.x.nameOf, T.E_BadPairs.x.nameOf, T.E_BadTerm.x.nameOf, T.E_BadMix.x.nameOf, T.E_BadPlace.x.nameOf, T.E_BadText.x.nameOf, T.E_BadLadder.x.nameOf, T.E_BadLadders.x.nameOf, T.E_NoFrame.x.nameOf, T.E_BadHabit.x.nameOf, T.E_BadChoice.x.nameOf, T.E_BadCourse.x.nameOf, T.E_BadTerms.x.nameOf, T.E_NoFit.x.nameOf, T.E_NoCompany.x.nameOf, T.E_BadWays.x.nameOf, T.E_BadNumber.x.nameOf, T.E_BadForest.x.nameOf, T.E_BadOrder.x.nameOf, T.E_BadJoin.x.nameOf, T.E_BadRow.x.nameOf, T.E_BadTable.x.nameOf, T.E_BadBox.x.nameOf, T.E_BadBoxes.x.nameOf, T.E_BadSeen.x.nameOf, T.E_BadProject.x.nameOf, T.E_BadShare.x.nameOf, T.E_BadYard.x.nameOf, T.E_BadPlan.x.nameOf, T.E_BadWorked.x.nameOf, T.E_BadGroup.x.nameOf, T.E_BadGroupOrder.x.nameOf, T.E_BadCondition.x.nameOf, T.E_BadStanding.x.nameOf, T.E_BadValue.x.nameOf, T.E_BadFirst.x.nameOf, T.E_BadOutcome.x.nameOf, T.E_DayOver.x.nameOf, T.E_NoDeed.x.nameOf, T.E_BadMark.x.nameOf, T.E_BadLine.x.nameOf, T.E_NoDay.x.nameOf, T.E_TooMany.x.nameOf]
  decide +kernel
def spLaw (K : PySem.W.Frag) : Sp := fun vs H Q _ => ∃ (a : Addr) (ns : List Int), vs = [.ref a] ∧ SqL K H a (ns.map V.int) ∧ ns.length ≤ 63 ∧ ∀ H', Q (.bl true) H'
theorem ok_law (T : Txt K mg) : FnG P w K mg base 5 T.d_law.a T.d_law.fd ["_law_script"] (spLaw K) := by
  refine okG T.d_law.F sc_law (fun vs H Q E h => ?_) (fun cdv A outer s H vs Q gd hr h => ?_)
  · obtain ⟨a, ns, rfl, _⟩ := h
    rfl
  · obtain ⟨a, ns, rfl, hS, hl, k⟩ := h
    have hu := hr.units
    refine ⟨_, (pss_cons (ps_set (i := 1) sc_law.nd rfl (Or.inl rfl) (pe_call (ok__law_open T) (hr.mono (by decide)) (by rfl) T.d__law_open.g T.d__law_open.F.kp T.d__law_open.b .nil pass0 (pa_cons (pv 0) pa_nil)))
      (pss_cons (ps_set (i := 2) sc_law.nd rfl (Or.inl rfl) (pe_lstN (pa_cons pe_non (pa_cons pe_int (pa_cons (pe_un un_neg pe_int) (pa_cons pe_bl (pa_cons (pe_op op_pow pe_int pe_int) (pa_cons pe_str (pa_cons (pe_tup pa_nil) (pa_cons (pe_tup (pa_cons pe_int (pa_cons pe_int pa_nil))) (pa_cons (pe_lstN pa_nil) (pa_cons (pe_lstN (pa_cons pe_int (pa_cons (pe_lstN (pa_cons pe_int pa_nil)) pa_nil))) (pa_cons (pe_tup (pa_cons (pe_tup (pa_cons pe_int (pa_cons pe_int pa_nil))) (pa_cons (pe_tup (pa_cons pe_int (pa_cons pe_int pa_nil))) pa_nil))) (pa_cons (pe_tup (pa_cons pe_str pa_nil)) pa_nil))))))))))))))
      (pss_cons (ps_set (i := 3) sc_law.nd rfl (Or.inl rfl) (pe_call (ok__law_one T) (hr.mono (by decide)) (by rfl) T.d__law_one.g T.d__law_one.F.kp T.d__law_one.b .nil pass0 (pa_cons (pv 1) (pa_cons (pv 2) pa_nil))))
      (pss_cons (ps_set (i := 4) sc_law.nd rfl (Or.inl rfl) (pe_callB (call_repr gd hu) (by rfl) T.n_repr (by decide +kernel) (pa_cons (pv 3) pa_nil)))
      (pss_cons (ps_for PassesOwn.never rfl (pi_enum (by rfl) T.n_enumerate (pa_cons (pe_call (ok__law_made T) (hr.mono (by decide)) (by rfl) T.d__law_made.g T.d__law_made.F.kp T.d__law_made.b .nil pass0 (pa_cons (pv 3) pa_nil)) pa_nil)) (pg_tup (by rfl) (pgs_cons (pg_name (i := 5) sc_law.nd rfl (Or.inl rfl)) (pgs_cons (pg_name (i := 6) sc_law.nd rfl (Or.inl rfl)) pgs_nil))) (pss_cons (ps_set (i := 7) sc_law.nd rfl (Or.inl rfl) (pe_call (ok__law_kinds T) (hr.mono (by decide)) (by rfl) T.d__law_kinds.g T.d__law_kinds.F.kp T.d__law_kinds.b .nil pass0 (pa_cons (pv 6) pa_nil)))
      (pss_cons (ps_if (PW.pt (pw_or (pt_cmpR op_ne (pe_bm PySem.F.plainAttrs_list PySem.F.slot_list_count PySem.F.type_list_count mt_bcount (pv 7) (pa_cons pe_bl pa_nil)) pe_int (nomark _)) (pw_or1 (pt_cmpR op_isnot_bl (pe_ix ix_list (pv 7) (pv 5) (fun _ _ => rfl)) pe_bl (nomark _))))) (pss_one (ps_ret pe_bl)) pss_nil)
      (pss_one (ps_if (PW.pt (pw_or (pt_not (pt_val (pe_callB call_isX (by rfl) T.n_isinstance (by decide +kernel) (pa_cons (pv 6) (pa_cons (pe_glob (v := .ref T.M.C) rfl T.M.g rfl) pa_nil))))) (pw_or (pt_not (pt_val (pe_callB call_isX (by rfl) T.n_isinstance (by decide +kernel) (pa_cons (pv 6) (pa_cons (pe_bltn (v := .ty "ValueError") (by rfl) T.n_ValueError (by decide +kernel) rfl) pa_nil))))) (pw_or1 (pt_cmpR op_ne (pe_callB (call_repr gd hu) (by rfl) T.n_repr (by decide +kernel) (pa_cons (pe_xo (pv 6)) pa_nil)) (pv 4) (nomark _)))))) (pss_one (ps_ret pe_bl)) pss_nil)))))
      (pss_cons (ps_set (i := 8) sc_law.nd rfl (Or.inl rfl) (pe_lstN (pa_cons pe_int pa_nil)))
      (pss_cons (ps_set (i := 9) sc_law.nd rfl (Or.inl rfl) (pe_call (ok__law_made T) (hr.mono (by decide)) (by rfl) T.d__law_made.g T.d__law_made.F.kp T.d__law_made.b .nil pass0 (pa_cons (pv 8) pa_nil)))
      (pss_cons (ps_expr (pe_bm PySem.F.plainAttrs_list PySem.F.slot_list_append PySem.F.type_list_append mt_append (pv 8) (pa_cons pe_int pa_nil)))
      (pss_cons (ps_if (pt_cmpR (op_neD hr.units) (pe_lc (own := [("_law_one_here", 6)]) (g := gName 6) (tt := tTest (tOp (rNeD K) (tXo K "value" (tVar 6)) (tLstN (tCons (tC (.int 0)) (tCons (tC (.int 1)) tNil))))) rfl sc_law.nd (pi_list (pv 9)) (blkOk_by (own := [("_law_one_here", 6)]) (N := n_law) (sc := defScope s_law) (by decide +kernel)) (fun _ _ _ _ _ => pg_name (i := 6) sc_law.nd rfl (Or.inl rfl)) (fun _ _ _ _ _ => by exact pts_one (pt_cmpR (op_neD (by exact hr.units)) (pe_xo (pv 6)) (pe_lstN (pa_cons pe_int (pa_cons pe_int pa_nil))) (nomark _))) (fun _ _ _ _ _ => pe_int)) (pe_lstN pa_nil) (nomark _)) (pss_one (ps_ret pe_bl)) pss_nil)
      (pss_one (ps_ret pe_bl))))))))))), ?_⟩
    refine ⟨.ref a, rfl, a, ns, rfl, hS, hl, fun p c H1 ex1 hp nf => ?_⟩
    dsimp only
    obtain ⟨xp, hxp⟩ := hp.hasP
    refine n_seq ?_
    refine s_asgP (el_lst (K := K) (p := p) (tm := tSome) hxp (mSome hxp) (by show 12 ≤ 900; decide)) fun v1 H2 e2 q2 => ?_
    obtain ⟨l, vs, rfl, nlp, nls, hl2, qs⟩ := q2
    have lv : vs.length = 12 := qs.len
    dsimp only
    refine n_seq ?_
    refine ⟨.ref p, rfl, .ref l, rfl, p, c, l, vs, 0, rfl, hp.ex e2, hl2, nlp, by omega, by omega, by omega, fun v H3 hv eb3 hp3 => ?_⟩
    obtain ⟨d, hd, q⟩ := qs.mem v hv
    have nd := ncSome d hd
    have q3 := Dq.exb (e2 _ _ hxp) eb3 _ _ q
    dsimp only
    refine n_seq ?_
    refine s_asg (ev_repr (p := p) (ed_var rfl q3) nd (by decide) (by decide)) fun H4 e4 => ?_
    dsimp only
    have q4 := Dq.ex e4 _ _ q3
    refine n_seq ?_
    -- the made ones, one after the other
    refine ⟨v, rfl, v, rfl, fun x H5 e5 q5 => ?_⟩
    obtain ⟨lm, xs, rfl, hlm, es⟩ := q5
    have q5 := Dq.ex e5 _ _ q4
    refine ⟨lm, xs, rfl, SqL.of hlm, ?_⟩
    refine ⟨fun i m σ H' => m = xs.length - i ∧ i ≤ xs.length ∧ ∃ (s5 s6 s7 : Option V), σ = [some (.ref a), some (.ref p), some (.ref l), some v, some (.str d.shown), s5, s6, s7, none, none] ∧ Ex H5 H', ⟨xs.length, by omega, Nat.zero_le _, none, none, none, rfl, Ex.refl _⟩, ?_⟩
    rintro i m σ H' ⟨rfl, hi, s5, s6, s7, rfl, ex⟩
    by_cases hlt : i < xs.length
    · refine .inr ⟨⟨_, xs[i], SqL.of (ex _ _ hlm), List.getElem?_eq_getElem hlt⟩, fun σ' H'' => ∃ (s5 s6 s7 : Option V), σ' = [some (.ref a), some (.ref p), some (.ref l), some v, some (.str d.shown), s5, s6, s7, none, none] ∧ Ex H5 H'', fun σ' H'' q => ⟨xs.length - (i + 1), by omega, rfl, hlt, q⟩, fun z H'' y => ?_⟩
      obtain ⟨t, z', rfl, ft, rfl, hz⟩ := y
      have ez : z' = xs[i] := by
        have := hz _ (SqL.of (ex _ _ hlm))
        rw [List.getElem?_eq_getElem hlt] at this
        exact (Option.some.inj this).symm
      subst ez
      have x4 := Ex.new (o := .tup [.int (i : Nat), xs[i]]) ft
      obtain ⟨C, hC, he⟩ := es.at i (List.getElem?_eq_getElem hlt)
      have hm := List.mem_of_getElem? hC
      obtain ⟨f, nm, X⟩ := cls_x T C hm
      have ex' := ex.trans x4
      generalize xs[i] = x at he ft x4 ex' ⊢
      refine ⟨t, _, rfl, SqT.of upd_same, rfl, _, _, rfl, _, _, rfl, rfl, ?_⟩
      generalize upd H' t (.tup [.int (i : Nat), x]) = H6 at x4 ex' ⊢
      refine n_seq ?_
      refine ⟨x, rfl, C, f, nm, v, x, rfl, he.ex ex', X, fun q6 H7 e7 h7 => ?_⟩
      dsimp only
      have ex7 := ex'.trans e7
      have h7' : H7 q6 = some (.lst (((clsAll T).map fun B => decide (C = B)).map V.bl)) := by
        rw [List.map_map]
        exact h7
      have c1 := count_one (cls_nodup T) hm
      have hat : atI ((clsAll T).map fun B => V.bl (decide (C = B))) (i : Int) = some (.bl true) := by
        refine atI_nat ?_
        rw [List.getElem?_map, hC]
        show some (V.bl (decide (C = C))) = _
        rw [decide_eq_true rfl]
      refine n_seq ?_
      refine s_skip (et_orF ?_ ?_) fun H8 e8 => ?_
      · refine et_is (et_test (b := !decide (V.int ((((clsAll T).map fun B => decide (C = B)).count true : Nat) : Int) = V.int 1)) ?_) (by rw [c1]; rfl)
        exact ev_op (fun H1 e Q kk => ⟨.ref q6, rfl, .inl ⟨rfl, _, Or.inl (Or.inl (e _ _ h7'))⟩, q6, _, true, rfl, rfl, SqL.of (e _ _ h7'), kk H1 (Ex.refl _)⟩) ev_c (rv_ne rfl)
      · refine et_is (et_test (b := !decide (true = true)) ?_) rfl
        exact fun H1 e Q kk => ⟨.ref q6, rfl, .int (i : Nat), rfl, q6, _, (i : Int), .bl true, rfl, rfl, SqL.of (e _ _ h7), hat, true, true, rfl, rfl, kk H1 (Ex.refl _)⟩
      have ex8 := ex7.trans e8
      have he8 := he.ex ex8
      refine s_skip (et_orF (et_is (et_not (et_B (ev_isX rfl he8 X.ec ref_rel X.base))) rfl) (et_orF (et_is (et_not (et_B (ev_isX (c := .ty "ValueError") rfl he8 X.ec (fun u r => r) X.ve))) rfl) (et_is (et_test (ev_op (ev_repr (p := p) (d := d) (fun H1 e Q kk => (ev_val rfl he8 X) H1 e _ fun H2 e2 => kk v H2 e2 (Dq.ex (ex8.trans (e.trans e2)) _ _ q5)) nd (by decide) (by decide)) (ev_var rfl) (rv_ne rfl))) (by simp)))) fun H9 e9 => ?_
      exact ⟨_, _, _, rfl, ex8.trans e9⟩
    · refine .inl ⟨⟨_, SqL.of (ex _ _ hlm), Nat.le_of_not_lt hlt⟩, ?_⟩
      refine n_seq ?_
      refine ⟨by show 1 ≤ sizeLine; decide, fun lk fk _ => ?_⟩
      have hk0 : (upd H' lk (.lst [.int 0])) lk = some (.lst [.int 0]) := upd_same
      generalize upd H' lk (.lst [.int 0]) = H6 at hk0 ⊢
      dsimp only
      refine n_seq ?_
      refine ⟨.ref lk, rfl, .ref lk, rfl, fun x H7 e7 q7 => ?_⟩
      obtain ⟨lm2, ys, rfl, hlm2, es2⟩ := q7
      have hk := e7 _ _ hk0
      have yl := es2.len
      have yl44 : (clsAll T).length = 44 := rfl
      dsimp only
      refine n_seq ?_
      refine ⟨.ref lk, rfl, .inl ⟨rfl, _, Or.inl (Or.inl hk)⟩, lk, [.int 0], .int 1, rfl, rfl, hk, by show 1 < sizeLine; decide, ?_⟩
      have nlk : lm2 ≠ lk := fun z => by
        rw [z, hk] at hlm2
        cases hlm2
        rw [yl44] at yl
        simp at yl
      have es3 := es2.upd (o := .lst ([.int 0] ++ [.int 1])) hk
      have hk3 : (upd H7 lk (.lst ([V.int 0] ++ [.int 1]))) lk = some (.lst [.int 0, .int 1]) := upd_same
      have hm3 : (upd H7 lk (.lst ([V.int 0] ++ [.int 1]))) lm2 = some (.lst ys) := by
        rw [upd_ne nlk]
        exact hlm2
      generalize upd H7 lk (.lst ([V.int 0] ++ [.int 1])) = H8 at es3 hk3 hm3 ⊢
      dsimp only
      refine n_seq ?_
      refine s_skip (et_test fun H9 e9 Q' kk => ?_) fun H9 e9 => ?_
      · refine (el_lcL (K := K) (xs := ys) (j := 6) (fun _ => false) (fun _ => .non) (ev_var rfl) (SqL.of hm3) (by omega) (fun _ => rfl) ?_ (fun _ _ _ _ _ h => nomatch h)) H9 e9 _ fun D H10 nD e10 hD => ?_
        · intro i x G eG hx
          obtain ⟨C, hC, he⟩ := es3.at i hx
          obtain ⟨f, nm, X⟩ := cls_x T C (List.mem_of_getElem? hC)
          refine et_test fun G1 e1 Q2 k2 => ?_
          refine (ev_val rfl (he.ex eG) X) G1 e1 _ fun G2 e2 => ?_
          refine ⟨by show 2 ≤ sizeLine; decide, fun l2 f2 _ => ?_⟩
          have xx := Ex.new (o := .lst [.int 0, .int 1]) f2
          have hk4 := xx _ _ (e2 _ _ (e1 _ _ (eG _ _ hk3)))
          exact ⟨.list [.int 0, .int 1], .list [.int 0, .int 1], .lst (SqL.of hk4) (.cons (.int _) (.cons (.int _) .nil)), .lst (SqL.of upd_same) (.cons (.int _) (.cons (.int _) .nil)), rfl, rfl, k2 _ (e2.trans xx)⟩
        · have g0 : given ys.length (fun _ => false) (fun _ => V.non) = [] := by simp [given]
          rw [g0] at hD
          refine ⟨by show 0 ≤ sizeLine; decide, fun l2 f2 _ => ?_⟩
          have xx := Ex.new (o := .lst []) f2
          exact ⟨.list [], .list [], .lst (SqL.of (xx _ _ hD)) .nil, .lst (SqL.of upd_same) .nil, rfl, rfl, kk _ (e10.trans xx)⟩
      · exact k _
end
theorem fun_ofD {K : PySem.W.Frag} {x qual : Str} {st : Stmt} {f : Addr} {fd : FuncData} (F : FunD K x qual (defArgs st) (defBody st) (defScope st) [] [] f fd) : Fun K x qual st f fd := by
  obtain ⟨oc, od, dV, kV, doc, pm, an, cdv, ct, osl, e, lk, hcd, hD, _⟩ := F.ex
  have e2 : dV = .none := by
    rcases hD with ⟨_, h⟩ | ⟨h, _⟩
    · exact h
    · exact absurd rfl h
  subst e2
  exact ⟨⟨oc, od, kV, doc, pm, an, cdv, ct, osl, e, lk, hcd⟩, F.kp⟩
/-- the end over a head by hFacts, where the law's def shows data -/
theorem walk_ofEG {l : PySem.W.OpenLaw} {m k : Nat} {q : Program} {loose : List Str} {XP : (Str → Option Value) → Heap → Prop} {YP : World → Heap → Prop} {d : DefRec} {y : Str}
    (hm : l.most = some m) (hm2 : m ≤ sizeLine) (hdd : d.params.defaults = []) (rm : Room k callerA)
    (T : ∀ (w : World) (mg : Str → Option Value) (z : Addr) (g : Heap), YP w g → g.Ns mainGlobals mg → mg d.name = some (.ref z) →
      ∃ (F : PySem.W.Frag) (fu : FuncData) (pr : Sp), F.In g ∧ (∀ (t : Shared) (v : Value), BindsTo t fu ⟨[v], []⟩ [(y, v)]) ∧
        (∀ (I : Hp) (b : Addr) (is : List Int), is.length ≤ m → SqL F I b (is.map V.int) → pr [.ref b] I (fun v _ => v = .bl true) E0) ∧
        ∀ under : Heap, F.In under → under.Ns mainGlobals mg → FnG l.prog w F mg under k z fu [y] pr) :
    PySem.W.WalkO q loose XP YP l.row.toRowW d [] (fun f vs => PySem.call f vs) := by
  apply Att.attach_call hm hdd
  intro w s₀ s₁ mg mb z o pm cd doc b vs is G Y _ _ _ hz hobj hints hlen hg
  obtain ⟨F, fu, pr, hF, hb, hpr, hT⟩ := T w mg z _ Y G.T.g hz
  exact law_callG hF G.T.g G.T.b G.T.builtins G.T.nolimit hg hobj hints (Nat.le_trans hlen hm2) rm hT hb fun H hS => hpr H b is hlen hS
theorem txt_of {K : PySem.W.Frag} {mg : Str → Option Value} {h : Heap} (X : K.In h) (G : h.Ns mainGlobals mg) (c : SaysH K) : ∃ T : Txt K mg, T.d_law.a = He.ga K "law" ∧ ∀ (s : Shared) (v : Value), BindsTo s T.d_law.fd ⟨[v], []⟩ [("_law_script", v)] := by
  obtain ⟨h1, h'⟩ := He.ba c.more
  obtain ⟨h2, h'⟩ := He.ba h'
  obtain ⟨h3, e0⟩ := He.ba h'
  obtain ⟨e0, e2⟩ := He.ba e0
  obtain ⟨e0, e1⟩ := He.ba e0
  obtain ⟨fd0, F0⟩ := He.SaysD.def_ c.t 0 (d := dOf "_law_spread" s__law_spread) rfl
  have G0 : Fun K "_law_spread" "_law_spread" s__law_spread (He.fAd K ("_law_spread", none)) fd0 := fun_ofD F0
  obtain ⟨fd1, F1⟩ := He.SaysD.def_ c.t 1 (d := dOf "_law_open" s__law_open) rfl
  have G1 : Fun K "_law_open" "_law_open" s__law_open (He.fAd K ("_law_open", none)) fd1 := fun_ofD F1
  obtain ⟨fd2, F2⟩ := He.SaysD.def_ c.t 2 (d := dOf "_law_take" s__law_take) rfl
  have G2 : Fun K "_law_take" "_law_take" s__law_take (He.fAd K ("_law_take", none)) fd2 := fun_ofD F2
  obtain ⟨fd3, F3⟩ := He.SaysD.def_ c.t 3 (d := dOf "_law_one" s__law_one) rfl
  have G3 : Fun K "_law_one" "_law_one" s__law_one (He.fAd K ("_law_one", none)) fd3 := fun_ofD F3
  obtain ⟨fd4, F4⟩ := He.SaysD.def_ c.t 4 (d := dOf "_law_made" s__law_made) rfl
  have G4 : Fun K "_law_made" "_law_made" s__law_made (He.fAd K ("_law_made", none)) fd4 := fun_ofD F4
  obtain ⟨fd5, F5⟩ := He.SaysD.def_ c.t 5 (d := dOf "_law_kinds" s__law_kinds) rfl
  have G5 : Fun K "_law_kinds" "_law_kinds" s__law_kinds (He.fAd K ("_law_kinds", none)) fd5 := fun_ofD F5
  obtain ⟨fd6, F6⟩ := He.SaysD.def_ c.t 6 (d := dOf "law" s_law) rfl
  have G6 : Fun K "law" "law" s_law (He.fAd K ("law", none)) fd6 := fun_ofD F6
  obtain ⟨fd7, F7⟩ := He.SaysD.def_ c.t 7 (d := iOf "MixError" "MixError.__init__" s_i_MixError) rfl
  have G7 : Fun K "__init__" "MixError.__init__" s_i_MixError (He.fAd K ("MixError", some "__init__")) fd7 := fun_ofD F7
  obtain ⟨fd8, F8⟩ := He.SaysD.def_ c.t 8 (d := iOf "BadFraction" "BadFraction.__init__" s_i_BadFraction) rfl
  have G8 : Fun K "__init__" "BadFraction.__init__" s_i_BadFraction (He.fAd K ("BadFraction", some "__init__")) fd8 := fun_ofD F8
  obtain ⟨fd9, F9⟩ := He.SaysD.def_ c.t 9 (d := iOf "BadPair" "BadPair.__init__" s_i_BadPair) rfl
  have G9 : Fun K "__init__" "BadPair.__init__" s_i_BadPair (He.fAd K ("BadPair", some "__init__")) fd9 := fun_ofD F9
  obtain ⟨fd10, F10⟩ := He.SaysD.def_ c.t 10 (d := iOf "BadPairs" "BadPairs.__init__" s_i_BadPairs) rfl
  have G10 : Fun K "__init__" "BadPairs.__init__" s_i_BadPairs (He.fAd K ("BadPairs", some "__init__")) fd10 := fun_ofD F10
  obtain ⟨fd11, F11⟩ := He.SaysD.def_ c.t 11 (d := iOf "BadTerm" "BadTerm.__init__" s_i_BadTerm) rfl
  have G11 : Fun K "__init__" "BadTerm.__init__" s_i_BadTerm (He.fAd K ("BadTerm", some "__init__")) fd11 := fun_ofD F11
  obtain ⟨fd12, F12⟩ := He.SaysD.def_ c.t 12 (d := iOf "BadMix" "BadMix.__init__" s_i_BadMix) rfl
  have G12 : Fun K "__init__" "BadMix.__init__" s_i_BadMix (He.fAd K ("BadMix", some "__init__")) fd12 := fun_ofD F12
  obtain ⟨fd13, F13⟩ := He.SaysD.def_ c.t 13 (d := iOf "BadPlace" "BadPlace.__init__" s_i_BadPlace) rfl
  have G13 : Fun K "__init__" "BadPlace.__init__" s_i_BadPlace (He.fAd K ("BadPlace", some "__init__")) fd13 := fun_ofD F13
  obtain ⟨fd14, F14⟩ := He.SaysD.def_ c.t 14 (d := iOf "BadText" "BadText.__init__" s_i_BadText) rfl
  have G14 : Fun K "__init__" "BadText.__init__" s_i_BadText (He.fAd K ("BadText", some "__init__")) fd14 := fun_ofD F14
  obtain ⟨fd15, F15⟩ := He.SaysD.def_ c.t 15 (d := iOf "BadLadder" "BadLadder.__init__" s_i_BadLadder) rfl
  have G15 : Fun K "__init__" "BadLadder.__init__" s_i_BadLadder (He.fAd K ("BadLadder", some "__init__")) fd15 := fun_ofD F15
  obtain ⟨fd16, F16⟩ := He.SaysD.def_ c.t 16 (d := iOf "BadLadders" "BadLadders.__init__" s_i_BadLadders) rfl
  have G16 : Fun K "__init__" "BadLadders.__init__" s_i_BadLadders (He.fAd K ("BadLadders", some "__init__")) fd16 := fun_ofD F16
  obtain ⟨fd17, F17⟩ := He.SaysD.def_ c.t 17 (d := iOf "NoFrame" "NoFrame.__init__" s_i_NoFrame) rfl
  have G17 : Fun K "__init__" "NoFrame.__init__" s_i_NoFrame (He.fAd K ("NoFrame", some "__init__")) fd17 := fun_ofD F17
  obtain ⟨fd18, F18⟩ := He.SaysD.def_ c.t 18 (d := iOf "BadHabit" "BadHabit.__init__" s_i_BadHabit) rfl
  have G18 : Fun K "__init__" "BadHabit.__init__" s_i_BadHabit (He.fAd K ("BadHabit", some "__init__")) fd18 := fun_ofD F18
  obtain ⟨fd19, F19⟩ := He.SaysD.def_ c.t 19 (d := iOf "BadChoice" "BadChoice.__init__" s_i_BadChoice) rfl
  have G19 : Fun K "__init__" "BadChoice.__init__" s_i_BadChoice (He.fAd K ("BadChoice", some "__init__")) fd19 := fun_ofD F19
  obtain ⟨fd20, F20⟩ := He.SaysD.def_ c.t 20 (d := iOf "BadCourse" "BadCourse.__init__" s_i_BadCourse) rfl
  have G20 : Fun K "__init__" "BadCourse.__init__" s_i_BadCourse (He.fAd K ("BadCourse", some "__init__")) fd20 := fun_ofD F20
  obtain ⟨fd21, F21⟩ := He.SaysD.def_ c.t 21 (d := iOf "BadTerms" "BadTerms.__init__" s_i_BadTerms) rfl
  have G21 : Fun K "__init__" "BadTerms.__init__" s_i_BadTerms (He.fAd K ("BadTerms", some "__init__")) fd21 := fun_ofD F21
  obtain ⟨fd22, F22⟩ := He.SaysD.def_ c.t 22 (d := iOf "NoFit" "NoFit.__init__" s_i_NoFit) rfl
  have G22 : Fun K "__init__" "NoFit.__init__" s_i_NoFit (He.fAd K ("NoFit", some "__init__")) fd22 := fun_ofD F22
  obtain ⟨fd23, F23⟩ := He.SaysD.def_ c.t 23 (d := iOf "NoCompany" "NoCompany.__init__" s_i_NoCompany) rfl
  have G23 : Fun K "__init__" "NoCompany.__init__" s_i_NoCompany (He.fAd K ("NoCompany", some "__init__")) fd23 := fun_ofD F23
  obtain ⟨fd24, F24⟩ := He.SaysD.def_ c.t 24 (d := iOf "BadWays" "BadWays.__init__" s_i_BadWays) rfl
  have G24 : Fun K "__init__" "BadWays.__init__" s_i_BadWays (He.fAd K ("BadWays", some "__init__")) fd24 := fun_ofD F24
  obtain ⟨fd25, F25⟩ := He.SaysD.def_ c.t 25 (d := iOf "BadNumber" "BadNumber.__init__" s_i_BadNumber) rfl
  have G25 : Fun K "__init__" "BadNumber.__init__" s_i_BadNumber (He.fAd K ("BadNumber", some "__init__")) fd25 := fun_ofD F25
  obtain ⟨fd26, F26⟩ := He.SaysD.def_ c.t 26 (d := iOf "BadForest" "BadForest.__init__" s_i_BadForest) rfl
  have G26 : Fun K "__init__" "BadForest.__init__" s_i_BadForest (He.fAd K ("BadForest", some "__init__")) fd26 := fun_ofD F26
  obtain ⟨fd27, F27⟩ := He.SaysD.def_ c.t 27 (d := iOf "BadOrder" "BadOrder.__init__" s_i_BadOrder) rfl
  have G27 : Fun K "__init__" "BadOrder.__init__" s_i_BadOrder (He.fAd K ("BadOrder", some "__init__")) fd27 := fun_ofD F27
  obtain ⟨fd28, F28⟩ := He.SaysD.def_ c.t 28 (d := iOf "BadJoin" "BadJoin.__init__" s_i_BadJoin) rfl
  have G28 : Fun K "__init__" "BadJoin.__init__" s_i_BadJoin (He.fAd K ("BadJoin", some "__init__")) fd28 := fun_ofD F28
  obtain ⟨fd29, F29⟩ := He.SaysD.def_ c.t 29 (d := iOf "BadRow" "BadRow.__init__" s_i_BadRow) rfl
  have G29 : Fun K "__init__" "BadRow.__init__" s_i_BadRow (He.fAd K ("BadRow", some "__init__")) fd29 := fun_ofD F29
  obtain ⟨fd30, F30⟩ := He.SaysD.def_ c.t 30 (d := iOf "BadTable" "BadTable.__init__" s_i_BadTable) rfl
  have G30 : Fun K "__init__" "BadTable.__init__" s_i_BadTable (He.fAd K ("BadTable", some "__init__")) fd30 := fun_ofD F30
  obtain ⟨fd31, F31⟩ := He.SaysD.def_ c.t 31 (d := iOf "BadBox" "BadBox.__init__" s_i_BadBox) rfl
  have G31 : Fun K "__init__" "BadBox.__init__" s_i_BadBox (He.fAd K ("BadBox", some "__init__")) fd31 := fun_ofD F31
  obtain ⟨fd32, F32⟩ := He.SaysD.def_ c.t 32 (d := iOf "BadBoxes" "BadBoxes.__init__" s_i_BadBoxes) rfl
  have G32 : Fun K "__init__" "BadBoxes.__init__" s_i_BadBoxes (He.fAd K ("BadBoxes", some "__init__")) fd32 := fun_ofD F32
  obtain ⟨fd33, F33⟩ := He.SaysD.def_ c.t 33 (d := iOf "BadSeen" "BadSeen.__init__" s_i_BadSeen) rfl
  have G33 : Fun K "__init__" "BadSeen.__init__" s_i_BadSeen (He.fAd K ("BadSeen", some "__init__")) fd33 := fun_ofD F33
  obtain ⟨fd34, F34⟩ := He.SaysD.def_ c.t 34 (d := iOf "BadProject" "BadProject.__init__" s_i_BadProject) rfl
  have G34 : Fun K "__init__" "BadProject.__init__" s_i_BadProject (He.fAd K ("BadProject", some "__init__")) fd34 := fun_ofD F34
  obtain ⟨fd35, F35⟩ := He.SaysD.def_ c.t 35 (d := iOf "BadShare" "BadShare.__init__" s_i_BadShare) rfl
  have G35 : Fun K "__init__" "BadShare.__init__" s_i_BadShare (He.fAd K ("BadShare", some "__init__")) fd35 := fun_ofD F35
  obtain ⟨fd36, F36⟩ := He.SaysD.def_ c.t 36 (d := iOf "BadYard" "BadYard.__init__" s_i_BadYard) rfl
  have G36 : Fun K "__init__" "BadYard.__init__" s_i_BadYard (He.fAd K ("BadYard", some "__init__")) fd36 := fun_ofD F36
  obtain ⟨fd37, F37⟩ := He.SaysD.def_ c.t 37 (d := iOf "BadPlan" "BadPlan.__init__" s_i_BadPlan) rfl
  have G37 : Fun K "__init__" "BadPlan.__init__" s_i_BadPlan (He.fAd K ("BadPlan", some "__init__")) fd37 := fun_ofD F37
  obtain ⟨fd38, F38⟩ := He.SaysD.def_ c.t 38 (d := iOf "BadWorked" "BadWorked.__init__" s_i_BadWorked) rfl
  have G38 : Fun K "__init__" "BadWorked.__init__" s_i_BadWorked (He.fAd K ("BadWorked", some "__init__")) fd38 := fun_ofD F38
  obtain ⟨fd39, F39⟩ := He.SaysD.def_ c.t 39 (d := iOf "BadGroup" "BadGroup.__init__" s_i_BadGroup) rfl
  have G39 : Fun K "__init__" "BadGroup.__init__" s_i_BadGroup (He.fAd K ("BadGroup", some "__init__")) fd39 := fun_ofD F39
  obtain ⟨fd40, F40⟩ := He.SaysD.def_ c.t 40 (d := iOf "BadGroupOrder" "BadGroupOrder.__init__" s_i_BadGroupOrder) rfl
  have G40 : Fun K "__init__" "BadGroupOrder.__init__" s_i_BadGroupOrder (He.fAd K ("BadGroupOrder", some "__init__")) fd40 := fun_ofD F40
  obtain ⟨fd41, F41⟩ := He.SaysD.def_ c.t 41 (d := iOf "BadCondition" "BadCondition.__init__" s_i_BadCondition) rfl
  have G41 : Fun K "__init__" "BadCondition.__init__" s_i_BadCondition (He.fAd K ("BadCondition", some "__init__")) fd41 := fun_ofD F41
  obtain ⟨fd42, F42⟩ := He.SaysD.def_ c.t 42 (d := iOf "BadStanding" "BadStanding.__init__" s_i_BadStanding) rfl
  have G42 : Fun K "__init__" "BadStanding.__init__" s_i_BadStanding (He.fAd K ("BadStanding", some "__init__")) fd42 := fun_ofD F42
  obtain ⟨fd43, F43⟩ := He.SaysD.def_ c.t 43 (d := iOf "BadValue" "BadValue.__init__" s_i_BadValue) rfl
  have G43 : Fun K "__init__" "BadValue.__init__" s_i_BadValue (He.fAd K ("BadValue", some "__init__")) fd43 := fun_ofD F43
  obtain ⟨fd44, F44⟩ := He.SaysD.def_ c.t 44 (d := iOf "BadFirst" "BadFirst.__init__" s_i_BadFirst) rfl
  have G44 : Fun K "__init__" "BadFirst.__init__" s_i_BadFirst (He.fAd K ("BadFirst", some "__init__")) fd44 := fun_ofD F44
  obtain ⟨fd45, F45⟩ := He.SaysD.def_ c.t 45 (d := iOf "BadOutcome" "BadOutcome.__init__" s_i_BadOutcome) rfl
  have G45 : Fun K "__init__" "BadOutcome.__init__" s_i_BadOutcome (He.fAd K ("BadOutcome", some "__init__")) fd45 := fun_ofD F45
  obtain ⟨fd46, F46⟩ := He.SaysD.def_ c.t 46 (d := iOf "DayOver" "DayOver.__init__" s_i_DayOver) rfl
  have G46 : Fun K "__init__" "DayOver.__init__" s_i_DayOver (He.fAd K ("DayOver", some "__init__")) fd46 := fun_ofD F46
  obtain ⟨fd47, F47⟩ := He.SaysD.def_ c.t 47 (d := iOf "NoDeed" "NoDeed.__init__" s_i_NoDeed) rfl
  have G47 : Fun K "__init__" "NoDeed.__init__" s_i_NoDeed (He.fAd K ("NoDeed", some "__init__")) fd47 := fun_ofD F47
  obtain ⟨fd48, F48⟩ := He.SaysD.def_ c.t 48 (d := iOf "BadMark" "BadMark.__init__" s_i_BadMark) rfl
  have G48 : Fun K "__init__" "BadMark.__init__" s_i_BadMark (He.fAd K ("BadMark", some "__init__")) fd48 := fun_ofD F48
  obtain ⟨fd49, F49⟩ := He.SaysD.def_ c.t 49 (d := iOf "BadLine" "BadLine.__init__" s_i_BadLine) rfl
  have G49 : Fun K "__init__" "BadLine.__init__" s_i_BadLine (He.fAd K ("BadLine", some "__init__")) fd49 := fun_ofD F49
  obtain ⟨fd50, F50⟩ := He.SaysD.def_ c.t 50 (d := iOf "NoDay" "NoDay.__init__" s_i_NoDay) rfl
  have G50 : Fun K "__init__" "NoDay.__init__" s_i_NoDay (He.fAd K ("NoDay", some "__init__")) fd50 := fun_ofD F50
  obtain ⟨fd51, F51⟩ := He.SaysD.def_ c.t 51 (d := iOf "TooMany" "TooMany.__init__" s_i_TooMany) rfl
  have G51 : Fun K "__init__" "TooMany.__init__" s_i_TooMany (He.fAd K ("TooMany", some "__init__")) fd51 := fun_ofD F51
  have bl := FunD.bindsA (x := "law") (qual := "law") (params := defArgs s_law) (body := defBody s_law) (scope := defScope s_law) (ps := ["_law_script"]) F6 (fun _ _ _ _ _ _ us hl => match us, hl with | [_], _ => rfl)
  refine ⟨{
    d__law_spread := ⟨_, fd0, G0, G0.binds (ps := ["_law_cell", "_law_at"]) (fun _ _ _ _ _ _ us hl => match us, hl with | [_, _], _ => rfl), He.glo_ok X G (He.SaysD.fact c.t 0 (f := .glo "_law_spread") rfl)⟩,
    d__law_open := ⟨_, fd1, G1, G1.binds (ps := ["_law_script"]) (fun _ _ _ _ _ _ us hl => match us, hl with | [_], _ => rfl), He.glo_ok X G (He.SaysD.fact c.t 1 (f := .glo "_law_open") rfl)⟩,
    d__law_take := ⟨_, fd2, G2, G2.binds (ps := ["_law_pen", "_law_many"]) (fun _ _ _ _ _ _ us hl => match us, hl with | [_, _], _ => rfl), He.glo_ok X G (He.SaysD.fact c.t 2 (f := .glo "_law_take") rfl)⟩,
    d__law_one := ⟨_, fd3, G3, G3.binds (ps := ["_law_pen", "_law_some"]) (fun _ _ _ _ _ _ us hl => match us, hl with | [_, _], _ => rfl), He.glo_ok X G (He.SaysD.fact c.t 3 (f := .glo "_law_one") rfl)⟩,
    d__law_made := ⟨_, fd4, G4, G4.binds (ps := ["_law_value"]) (fun _ _ _ _ _ _ us hl => match us, hl with | [_], _ => rfl), He.glo_ok X G (He.SaysD.fact c.t 4 (f := .glo "_law_made") rfl)⟩,
    d__law_kinds := ⟨_, fd5, G5, G5.binds (ps := ["_law_one_here"]) (fun _ _ _ _ _ _ us hl => match us, hl with | [_], _ => rfl), He.glo_ok X G (He.SaysD.fact c.t 5 (f := .glo "_law_kinds") rfl)⟩,
    d_law := ⟨_, fd6, G6, G6.binds (ps := ["_law_script"]) (fun _ _ _ _ _ _ us hl => match us, hl with | [_], _ => rfl), He.glo_ok X G (He.SaysD.fact c.t 6 (f := .glo "law") rfl)⟩,
    n_enumerate := He.free_ok X G (He.SaysD.fact c.t 7 (f := .free "enumerate") rfl),
    n_int := He.free_ok X G (He.SaysD.fact c.t 8 (f := .free "int") rfl),
    n_isinstance := He.free_ok X G (He.SaysD.fact c.t 9 (f := .free "isinstance") rfl),
    n_len := He.free_ok X G (He.SaysD.fact c.t 10 (f := .free "len") rfl),
    n_list := He.free_ok X G (He.SaysD.fact c.t 11 (f := .free "list") rfl),
    n_repr := He.free_ok X G (He.SaysD.fact c.t 12 (f := .free "repr") rfl),
    n_ValueError := He.free_ok X G (He.SaysD.fact c.t 13 (f := .free "ValueError") rfl),
    v_VE := ini_ok h1,
    M := { C := He.ga K "MixError", f := He.fAd K ("MixError", some "__init__"), fd := fd7, g := He.glo_ok X G (He.SaysD.fact c.t 14 (f := .glo "MixError") rfl), F := G7, b := G7.binds (ps := ["self", "value"]) (fun _ _ _ _ _ _ us hl => match us, hl with | [_, _], _ => rfl), rd := (base_ok h3).1, ga := (base_ok h3).2.1, fi := ini_ok h2, kp := (base_ok h3).2.2 },
    E_BadFraction := { C := He.ga K "BadFraction", f := He.fAd K ("BadFraction", some "__init__"), fd := fd8, g := He.glo_ok X G (He.SaysD.fact c.t 15 (f := .glo "BadFraction") rfl), F := G8, b := G8.binds (ps := ["self", "value"]) (fun _ _ _ _ _ _ us hl => match us, hl with | [_, _], _ => rfl), x := err_ok (List.all_eq_true.mp e0 "BadFraction" (List.mem_of_getElem? (i := 0) rfl)) },
    E_BadPair := { C := He.ga K "BadPair", f := He.fAd K ("BadPair", some "__init__"), fd := fd9, g := He.glo_ok X G (He.SaysD.fact c.t 16 (f := .glo "BadPair") rfl), F := G9, b := G9.binds (ps := ["self", "value"]) (fun _ _ _ _ _ _ us hl => match us, hl with | [_, _], _ => rfl), x := err_ok (List.all_eq_true.mp e0 "BadPair" (List.mem_of_getElem? (i := 1) rfl)) },
    E_BadPairs := { C := He.ga K "BadPairs", f := He.fAd K ("BadPairs", some "__init__"), fd := fd10, g := He.glo_ok X G (He.SaysD.fact c.t 17 (f := .glo "BadPairs") rfl), F := G10, b := G10.binds (ps := ["self", "value"]) (fun _ _ _ _ _ _ us hl => match us, hl with | [_, _], _ => rfl), x := err_ok (List.all_eq_true.mp e0 "BadPairs" (List.mem_of_getElem? (i := 2) rfl)) },
    E_BadTerm := { C := He.ga K "BadTerm", f := He.fAd K ("BadTerm", some "__init__"), fd := fd11, g := He.glo_ok X G (He.SaysD.fact c.t 18 (f := .glo "BadTerm") rfl), F := G11, b := G11.binds (ps := ["self", "value"]) (fun _ _ _ _ _ _ us hl => match us, hl with | [_, _], _ => rfl), x := err_ok (List.all_eq_true.mp e0 "BadTerm" (List.mem_of_getElem? (i := 3) rfl)) },
    E_BadMix := { C := He.ga K "BadMix", f := He.fAd K ("BadMix", some "__init__"), fd := fd12, g := He.glo_ok X G (He.SaysD.fact c.t 19 (f := .glo "BadMix") rfl), F := G12, b := G12.binds (ps := ["self", "value"]) (fun _ _ _ _ _ _ us hl => match us, hl with | [_, _], _ => rfl), x := err_ok (List.all_eq_true.mp e0 "BadMix" (List.mem_of_getElem? (i := 4) rfl)) },
    E_BadPlace := { C := He.ga K "BadPlace", f := He.fAd K ("BadPlace", some "__init__"), fd := fd13, g := He.glo_ok X G (He.SaysD.fact c.t 20 (f := .glo "BadPlace") rfl), F := G13, b := G13.binds (ps := ["self", "value"]) (fun _ _ _ _ _ _ us hl => match us, hl with | [_, _], _ => rfl), x := err_ok (List.all_eq_true.mp e0 "BadPlace" (List.mem_of_getElem? (i := 5) rfl)) },
    E_BadText := { C := He.ga K "BadText", f := He.fAd K ("BadText", some "__init__"), fd := fd14, g := He.glo_ok X G (He.SaysD.fact c.t 21 (f := .glo "BadText") rfl), F := G14, b := G14.binds (ps := ["self", "value"]) (fun _ _ _ _ _ _ us hl => match us, hl with | [_, _], _ => rfl), x := err_ok (List.all_eq_true.mp e0 "BadText" (List.mem_of_getElem? (i := 6) rfl)) },
    E_BadLadder := { C := He.ga K "BadLadder", f := He.fAd K ("BadLadder", some "__init__"), fd := fd15, g := He.glo_ok X G (He.SaysD.fact c.t 22 (f := .glo "BadLadder") rfl), F := G15, b := G15.binds (ps := ["self", "value"]) (fun _ _ _ _ _ _ us hl => match us, hl with | [_, _], _ => rfl), x := err_ok (List.all_eq_true.mp e0 "BadLadder" (List.mem_of_getElem? (i := 7) rfl)) },
    E_BadLadders := { C := He.ga K "BadLadders", f := He.fAd K ("BadLadders", some "__init__"), fd := fd16, g := He.glo_ok X G (He.SaysD.fact c.t 23 (f := .glo "BadLadders") rfl), F := G16, b := G16.binds (ps := ["self", "value"]) (fun _ _ _ _ _ _ us hl => match us, hl with | [_, _], _ => rfl), x := err_ok (List.all_eq_true.mp e0 "BadLadders" (List.mem_of_getElem? (i := 8) rfl)) },
    E_NoFrame := { C := He.ga K "NoFrame", f := He.fAd K ("NoFrame", some "__init__"), fd := fd17, g := He.glo_ok X G (He.SaysD.fact c.t 24 (f := .glo "NoFrame") rfl), F := G17, b := G17.binds (ps := ["self", "value"]) (fun _ _ _ _ _ _ us hl => match us, hl with | [_, _], _ => rfl), x := err_ok (List.all_eq_true.mp e0 "NoFrame" (List.mem_of_getElem? (i := 9) rfl)) },
    E_BadHabit := { C := He.ga K "BadHabit", f := He.fAd K ("BadHabit", some "__init__"), fd := fd18, g := He.glo_ok X G (He.SaysD.fact c.t 25 (f := .glo "BadHabit") rfl), F := G18, b := G18.binds (ps := ["self", "value"]) (fun _ _ _ _ _ _ us hl => match us, hl with | [_, _], _ => rfl), x := err_ok (List.all_eq_true.mp e0 "BadHabit" (List.mem_of_getElem? (i := 10) rfl)) },
    E_BadChoice := { C := He.ga K "BadChoice", f := He.fAd K ("BadChoice", some "__init__"), fd := fd19, g := He.glo_ok X G (He.SaysD.fact c.t 26 (f := .glo "BadChoice") rfl), F := G19, b := G19.binds (ps := ["self", "value"]) (fun _ _ _ _ _ _ us hl => match us, hl with | [_, _], _ => rfl), x := err_ok (List.all_eq_true.mp e0 "BadChoice" (List.mem_of_getElem? (i := 11) rfl)) },
    E_BadCourse := { C := He.ga K "BadCourse", f := He.fAd K ("BadCourse", some "__init__"), fd := fd20, g := He.glo_ok X G (He.SaysD.fact c.t 27 (f := .glo "BadCourse") rfl), F := G20, b := G20.binds (ps := ["self", "value"]) (fun _ _ _ _ _ _ us hl => match us, hl with | [_, _], _ => rfl), x := err_ok (List.all_eq_true.mp e0 "BadCourse" (List.mem_of_getElem? (i := 12) rfl)) },
    E_BadTerms := { C := He.ga K "BadTerms", f := He.fAd K ("BadTerms", some "__init__"), fd := fd21, g := He.glo_ok X G (He.SaysD.fact c.t 28 (f := .glo "BadTerms") rfl), F := G21, b := G21.binds (ps := ["self", "value"]) (fun _ _ _ _ _ _ us hl => match us, hl with | [_, _], _ => rfl), x := err_ok (List.all_eq_true.mp e0 "BadTerms" (List.mem_of_getElem? (i := 13) rfl)) },
    E_NoFit := { C := He.ga K "NoFit", f := He.fAd K ("NoFit", some "__init__"), fd := fd22, g := He.glo_ok X G (He.SaysD.fact c.t 29 (f := .glo "NoFit") rfl), F := G22, b := G22.binds (ps := ["self", "value"]) (fun _ _ _ _ _ _ us hl => match us, hl with | [_, _], _ => rfl), x := err_ok (List.all_eq_true.mp e0 "NoFit" (List.mem_of_getElem? (i := 14) rfl)) },
    E_NoCompany := { C := He.ga K "NoCompany", f := He.fAd K ("NoCompany", some "__init__"), fd := fd23, g := He.glo_ok X G (He.SaysD.fact c.t 30 (f := .glo "NoCompany") rfl), F := G23, b := G23.binds (ps := ["self", "value"]) (fun _ _ _ _ _ _ us hl => match us, hl with | [_, _], _ => rfl), x := err_ok (List.all_eq_true.mp e1 "NoCompany" (List.mem_of_getElem? (i := 0) rfl)) },
    E_BadWays := { C := He.ga K "BadWays", f := He.fAd K ("BadWays", some "__init__"), fd := fd24, g := He.glo_ok X G (He.SaysD.fact c.t 31 (f := .glo "BadWays") rfl), F := G24, b := G24.binds (ps := ["self", "value"]) (fun _ _ _ _ _ _ us hl => match us, hl with | [_, _], _ => rfl), x := err_ok (List.all_eq_true.mp e1 "BadWays" (List.mem_of_getElem? (i := 1) rfl)) },
    E_BadNumber := { C := He.ga K "BadNumber", f := He.fAd K ("BadNumber", some "__init__"), fd := fd25, g := He.glo_ok X G (He.SaysD.fact c.t 32 (f := .glo "BadNumber") rfl), F := G25, b := G25.binds (ps := ["self", "value"]) (fun _ _ _ _ _ _ us hl => match us, hl with | [_, _], _ => rfl), x := err_ok (List.all_eq_true.mp e1 "BadNumber" (List.mem_of_getElem? (i := 2) rfl)) },
    E_BadForest := { C := He.ga K "BadForest", f := He.fAd K ("BadForest", some "__init__"), fd := fd26, g := He.glo_ok X G (He.SaysD.fact c.t 33 (f := .glo "BadForest") rfl), F := G26, b := G26.binds (ps := ["self", "value"]) (fun _ _ _ _ _ _ us hl => match us, hl with | [_, _], _ => rfl), x := err_ok (List.all_eq_true.mp e1 "BadForest" (List.mem_of_getElem? (i := 3) rfl)) },
    E_BadOrder := { C := He.ga K "BadOrder", f := He.fAd K ("BadOrder", some "__init__"), fd := fd27, g := He.glo_ok X G (He.SaysD.fact c.t 34 (f := .glo "BadOrder") rfl), F := G27, b := G27.binds (ps := ["self", "value"]) (fun _ _ _ _ _ _ us hl => match us, hl with | [_, _], _ => rfl), x := err_ok (List.all_eq_true.mp e1 "BadOrder" (List.mem_of_getElem? (i := 4) rfl)) },
    E_BadJoin := { C := He.ga K "BadJoin", f := He.fAd K ("BadJoin", some "__init__"), fd := fd28, g := He.glo_ok X G (He.SaysD.fact c.t 35 (f := .glo "BadJoin") rfl), F := G28, b := G28.binds (ps := ["self", "value"]) (fun _ _ _ _ _ _ us hl => match us, hl with | [_, _], _ => rfl), x := err_ok (List.all_eq_true.mp e1 "BadJoin" (List.mem_of_getElem? (i := 5) rfl)) },
    E_BadRow := { C := He.ga K "BadRow", f := He.fAd K ("BadRow", some "__init__"), fd := fd29, g := He.glo_ok X G (He.SaysD.fact c.t 36 (f := .glo "BadRow") rfl), F := G29, b := G29.binds (ps := ["self", "value"]) (fun _ _ _ _ _ _ us hl => match us, hl with | [_, _], _ => rfl), x := err_ok (List.all_eq_true.mp e1 "BadRow" (List.mem_of_getElem? (i := 6) rfl)) },
    E_BadTable := { C := He.ga K "BadTable", f := He.fAd K ("BadTable", some "__init__"), fd := fd30, g := He.glo_ok X G (He.SaysD.fact c.t 37 (f := .glo "BadTable") rfl), F := G30, b := G30.binds (ps := ["self", "value"]) (fun _ _ _ _ _ _ us hl => match us, hl with | [_, _], _ => rfl), x := err_ok (List.all_eq_true.mp e1 "BadTable" (List.mem_of_getElem? (i := 7) rfl)) },
    E_BadBox := { C := He.ga K "BadBox", f := He.fAd K ("BadBox", some "__init__"), fd := fd31, g := He.glo_ok X G (He.SaysD.fact c.t 38 (f := .glo "BadBox") rfl), F := G31, b := G31.binds (ps := ["self", "value"]) (fun _ _ _ _ _ _ us hl => match us, hl with | [_, _], _ => rfl), x := err_ok (List.all_eq_true.mp e1 "BadBox" (List.mem_of_getElem? (i := 8) rfl)) },
    E_BadBoxes := { C := He.ga K "BadBoxes", f := He.fAd K ("BadBoxes", some "__init__"), fd := fd32, g := He.glo_ok X G (He.SaysD.fact c.t 39 (f := .glo "BadBoxes") rfl), F := G32, b := G32.binds (ps := ["self", "value"]) (fun _ _ _ _ _ _ us hl => match us, hl with | [_, _], _ => rfl), x := err_ok (List.all_eq_true.mp e1 "BadBoxes" (List.mem_of_getElem? (i := 9) rfl)) },
    E_BadSeen := { C := He.ga K "BadSeen", f := He.fAd K ("BadSeen", some "__init__"), fd := fd33, g := He.glo_ok X G (He.SaysD.fact c.t 40 (f := .glo "BadSeen") rfl), F := G33, b := G33.binds (ps := ["self", "value"]) (fun _ _ _ _ _ _ us hl => match us, hl with | [_, _], _ => rfl), x := err_ok (List.all_eq_true.mp e1 "BadSeen" (List.mem_of_getElem? (i := 10) rfl)) },
    E_BadProject := { C := He.ga K "BadProject", f := He.fAd K ("BadProject", some "__init__"), fd := fd34, g := He.glo_ok X G (He.SaysD.fact c.t 41 (f := .glo "BadProject") rfl), F := G34, b := G34.binds (ps := ["self", "value"]) (fun _ _ _ _ _ _ us hl => match us, hl with | [_, _], _ => rfl), x := err_ok (List.all_eq_true.mp e1 "BadProject" (List.mem_of_getElem? (i := 11) rfl)) },
    E_BadShare := { C := He.ga K "BadShare", f := He.fAd K ("BadShare", some "__init__"), fd := fd35, g := He.glo_ok X G (He.SaysD.fact c.t 42 (f := .glo "BadShare") rfl), F := G35, b := G35.binds (ps := ["self", "value"]) (fun _ _ _ _ _ _ us hl => match us, hl with | [_, _], _ => rfl), x := err_ok (List.all_eq_true.mp e1 "BadShare" (List.mem_of_getElem? (i := 12) rfl)) },
    E_BadYard := { C := He.ga K "BadYard", f := He.fAd K ("BadYard", some "__init__"), fd := fd36, g := He.glo_ok X G (He.SaysD.fact c.t 43 (f := .glo "BadYard") rfl), F := G36, b := G36.binds (ps := ["self", "value"]) (fun _ _ _ _ _ _ us hl => match us, hl with | [_, _], _ => rfl), x := err_ok (List.all_eq_true.mp e1 "BadYard" (List.mem_of_getElem? (i := 13) rfl)) },
    E_BadPlan := { C := He.ga K "BadPlan", f := He.fAd K ("BadPlan", some "__init__"), fd := fd37, g := He.glo_ok X G (He.SaysD.fact c.t 44 (f := .glo "BadPlan") rfl), F := G37, b := G37.binds (ps := ["self", "value"]) (fun _ _ _ _ _ _ us hl => match us, hl with | [_, _], _ => rfl), x := err_ok (List.all_eq_true.mp e1 "BadPlan" (List.mem_of_getElem? (i := 14) rfl)) },
    E_BadWorked := { C := He.ga K "BadWorked", f := He.fAd K ("BadWorked", some "__init__"), fd := fd38, g := He.glo_ok X G (He.SaysD.fact c.t 45 (f := .glo "BadWorked") rfl), F := G38, b := G38.binds (ps := ["self", "value"]) (fun _ _ _ _ _ _ us hl => match us, hl with | [_, _], _ => rfl), x := err_ok (List.all_eq_true.mp e2 "BadWorked" (List.mem_of_getElem? (i := 0) rfl)) },
    E_BadGroup := { C := He.ga K "BadGroup", f := He.fAd K ("BadGroup", some "__init__"), fd := fd39, g := He.glo_ok X G (He.SaysD.fact c.t 46 (f := .glo "BadGroup") rfl), F := G39, b := G39.binds (ps := ["self", "value"]) (fun _ _ _ _ _ _ us hl => match us, hl with | [_, _], _ => rfl), x := err_ok (List.all_eq_true.mp e2 "BadGroup" (List.mem_of_getElem? (i := 1) rfl)) },
    E_BadGroupOrder := { C := He.ga K "BadGroupOrder", f := He.fAd K ("BadGroupOrder", some "__init__"), fd := fd40, g := He.glo_ok X G (He.SaysD.fact c.t 47 (f := .glo "BadGroupOrder") rfl), F := G40, b := G40.binds (ps := ["self", "value"]) (fun _ _ _ _ _ _ us hl => match us, hl with | [_, _], _ => rfl), x := err_ok (List.all_eq_true.mp e2 "BadGroupOrder" (List.mem_of_getElem? (i := 2) rfl)) },
    E_BadCondition := { C := He.ga K "BadCondition", f := He.fAd K ("BadCondition", some "__init__"), fd := fd41, g := He.glo_ok X G (He.SaysD.fact c.t 48 (f := .glo "BadCondition") rfl), F := G41, b := G41.binds (ps := ["self", "value"]) (fun _ _ _ _ _ _ us hl => match us, hl with | [_, _], _ => rfl), x := err_ok (List.all_eq_true.mp e2 "BadCondition" (List.mem_of_getElem? (i := 3) rfl)) },
    E_BadStanding := { C := He.ga K "BadStanding", f := He.fAd K ("BadStanding", some "__init__"), fd := fd42, g := He.glo_ok X G (He.SaysD.fact c.t 49 (f := .glo "BadStanding") rfl), F := G42, b := G42.binds (ps := ["self", "value"]) (fun _ _ _ _ _ _ us hl => match us, hl with | [_, _], _ => rfl), x := err_ok (List.all_eq_true.mp e2 "BadStanding" (List.mem_of_getElem? (i := 4) rfl)) },
    E_BadValue := { C := He.ga K "BadValue", f := He.fAd K ("BadValue", some "__init__"), fd := fd43, g := He.glo_ok X G (He.SaysD.fact c.t 50 (f := .glo "BadValue") rfl), F := G43, b := G43.binds (ps := ["self", "value"]) (fun _ _ _ _ _ _ us hl => match us, hl with | [_, _], _ => rfl), x := err_ok (List.all_eq_true.mp e2 "BadValue" (List.mem_of_getElem? (i := 5) rfl)) },
    E_BadFirst := { C := He.ga K "BadFirst", f := He.fAd K ("BadFirst", some "__init__"), fd := fd44, g := He.glo_ok X G (He.SaysD.fact c.t 51 (f := .glo "BadFirst") rfl), F := G44, b := G44.binds (ps := ["self", "value"]) (fun _ _ _ _ _ _ us hl => match us, hl with | [_, _], _ => rfl), x := err_ok (List.all_eq_true.mp e2 "BadFirst" (List.mem_of_getElem? (i := 6) rfl)) },
    E_BadOutcome := { C := He.ga K "BadOutcome", f := He.fAd K ("BadOutcome", some "__init__"), fd := fd45, g := He.glo_ok X G (He.SaysD.fact c.t 52 (f := .glo "BadOutcome") rfl), F := G45, b := G45.binds (ps := ["self", "value"]) (fun _ _ _ _ _ _ us hl => match us, hl with | [_, _], _ => rfl), x := err_ok (List.all_eq_true.mp e2 "BadOutcome" (List.mem_of_getElem? (i := 7) rfl)) },
    E_DayOver := { C := He.ga K "DayOver", f := He.fAd K ("DayOver", some "__init__"), fd := fd46, g := He.glo_ok X G (He.SaysD.fact c.t 53 (f := .glo "DayOver") rfl), F := G46, b := G46.binds (ps := ["self", "value"]) (fun _ _ _ _ _ _ us hl => match us, hl with | [_, _], _ => rfl), x := err_ok (List.all_eq_true.mp e2 "DayOver" (List.mem_of_getElem? (i := 8) rfl)) },
    E_NoDeed := { C := He.ga K "NoDeed", f := He.fAd K ("NoDeed", some "__init__"), fd := fd47, g := He.glo_ok X G (He.SaysD.fact c.t 54 (f := .glo "NoDeed") rfl), F := G47, b := G47.binds (ps := ["self", "value"]) (fun _ _ _ _ _ _ us hl => match us, hl with | [_, _], _ => rfl), x := err_ok (List.all_eq_true.mp e2 "NoDeed" (List.mem_of_getElem? (i := 9) rfl)) },
    E_BadMark := { C := He.ga K "BadMark", f := He.fAd K ("BadMark", some "__init__"), fd := fd48, g := He.glo_ok X G (He.SaysD.fact c.t 55 (f := .glo "BadMark") rfl), F := G48, b := G48.binds (ps := ["self", "value"]) (fun _ _ _ _ _ _ us hl => match us, hl with | [_, _], _ => rfl), x := err_ok (List.all_eq_true.mp e2 "BadMark" (List.mem_of_getElem? (i := 10) rfl)) },
    E_BadLine := { C := He.ga K "BadLine", f := He.fAd K ("BadLine", some "__init__"), fd := fd49, g := He.glo_ok X G (He.SaysD.fact c.t 56 (f := .glo "BadLine") rfl), F := G49, b := G49.binds (ps := ["self", "value"]) (fun _ _ _ _ _ _ us hl => match us, hl with | [_, _], _ => rfl), x := err_ok (List.all_eq_true.mp e2 "BadLine" (List.mem_of_getElem? (i := 11) rfl)) },
    E_NoDay := { C := He.ga K "NoDay", f := He.fAd K ("NoDay", some "__init__"), fd := fd50, g := He.glo_ok X G (He.SaysD.fact c.t 57 (f := .glo "NoDay") rfl), F := G50, b := G50.binds (ps := ["self", "value"]) (fun _ _ _ _ _ _ us hl => match us, hl with | [_, _], _ => rfl), x := err_ok (List.all_eq_true.mp e2 "NoDay" (List.mem_of_getElem? (i := 12) rfl)) },
    E_TooMany := { C := He.ga K "TooMany", f := He.fAd K ("TooMany", some "__init__"), fd := fd51, g := He.glo_ok X G (He.SaysD.fact c.t 58 (f := .glo "TooMany") rfl), F := G51, b := G51.binds (ps := ["self", "value"]) (fun _ _ _ _ _ _ us hl => match us, hl with | [_, _], _ => rfl), x := err_ok (List.all_eq_true.mp e2 "TooMany" (List.mem_of_getElem? (i := 13) rfl)) } }, rfl, fun s v => ?_⟩
  exact bl s [v] rfl
theorem hFacts {P : Program} {w : World} {K : PySem.W.Frag} {h : Heap} {mg : Str → Option Value} {f : Addr} (X : K.In h) (G : h.Ns mainGlobals mg) (hfa : mg ("law" : Str) = some (.ref f)) (c : SaysH K) :
    ∃ fd : FuncData, (∀ (s : Shared) (v : Value), BindsTo s fd ⟨[v], []⟩ [("_law_script", v)]) ∧ ∀ base : Heap, K.In base → base.Ns mainGlobals mg → FnG P w K mg base 5 f fd ["_law_script"] (spLaw K) := by
  obtain ⟨T, ea, hb⟩ := txt_of X G c
  have e := hfa.symm.trans T.d_law.g
  cases e
  exact ⟨T.d_law.fd, hb, fun base _ _ => ok_law T⟩
end Jf
open PySem PySem.W PySem.Calls PyProof.Rows
theorem PySem.Challenge.cw_onenumber_k00_errors_by_hand_holds : PySem.Challenge.rw_onenumber_k00_errors_by_hand.Holds := by
  w_on; o_law
  refine HandSHeadRun.head_any (r := OpenLaw.row PySem.Challenge.rw_onenumber_k00_errors_by_hand) (q := view (OpenLaw.row PySem.Challenge.rw_onenumber_k00_errors_by_hand).prog [53]) (H := Jf.hHk) (ob := Jf.hOb) (M := 11300) (loose := Jf.hNames) (d := HandSHeadRun.topDef (OpenLaw.row PySem.Challenge.rw_onenumber_k00_errors_by_hand).prog 53) (kwd := []) Jf.hOb_eq
    (by kernel_rfl) (fun s => by kernel_rfl) Jf.hRun (by kernel_rfl) (by kernel_rfl) (by kernel_rfl) (by rfl) (by first | assumption | decide +kernel) (by decide +kernel) ⟨rfl, rfl, rfl, rfl, rfl, by decide +kernel⟩ ?hw ?hc
  case hw => w_witness2
  case hc =>
    refine Jf.walk_ofEG (l := PySem.Challenge.rw_onenumber_k00_errors_by_hand) (m := 63) (k := 5) (y := "_law_script") rfl (by decide) (by kernel_rfl) ⟨rfl, by decide, by decide⟩ ?T
    intro w mg z g Y G hz
    obtain ⟨F, hF, c⟩ := Y
    have named : (HandSHeadRun.topDef (OpenLaw.row PySem.Challenge.rw_onenumber_k00_errors_by_hand).prog 53).name = ("law" : PySem.Str) := by kernel_rfl
    rw [named] at hz
    obtain ⟨fu, hb, hT⟩ := Jf.hFacts (P := (PySem.Challenge.rw_onenumber_k00_errors_by_hand).prog) (w := w) hF G hz c
    exact ⟨F, fu, Jf.spLaw F, hF, hb, fun I b is hl hS => ⟨b, is, rfl, hS, hl, fun _ => rfl⟩, hT⟩
