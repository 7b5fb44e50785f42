import PyProof.Rows.All
import Wide.All
import OpenK.AllK
import Wide.FinOn
import Open.SpecLaws
import KE.OsGo
import KE.KTupSum
import HandS.ForSpec
import HandS.TryMany
import HandS.IsInst
import HandS.Comp
import HandS.Dict
import HandS.Iter
import HandS.Zip
import HandS.More
import HandS.SetFor
import HandS.Small
import HandS.ClsMeth
import HandS.WordsDict
import HandS.TupMul
import HandS.Wide
import PySem.Challenge.RW_layerimages_s01_answers
set_option Elab.async false
set_option linter.all false
namespace LM
open Ie02
/-! fractions: their values -/
def val (q : Frac) : Rat := (q.n : Rat) / (q.d : Rat)
structure Good (q : Frac) : Prop where
  pos : 0 < q.d
  cop : Nat.gcd q.n q.d = 1
structure U (q : Frac) : Prop where
  good : Good q
  le : q.n ≤ q.d
theorem cast_pos {n : Nat} (h : 0 < n) : (0 : Rat) < (n : Rat) := by
  exact_mod_cast h
theorem cast_ne {n : Nat} (h : 0 < n) : (n : Rat) ≠ 0 := by
  have := cast_pos h
  grind
theorem cast_nn (n : Nat) : (0 : Rat) ≤ (n : Rat) := by
  exact_mod_cast Nat.zero_le n
theorem frac_pos {n d : Nat} (h : 0 < d) : 0 < (frac n d).d := by
  show 0 < d / Nat.gcd n d
  exact Nat.div_pos (Nat.le_of_dvd h (Nat.gcd_dvd_right n d)) (Nat.gcd_pos_of_pos_right n h)
theorem frac_good {n d : Nat} (h : 0 < d) : Good (frac n d) := by
  refine ⟨frac_pos h, ?_⟩
  show Nat.gcd (n / Nat.gcd n d) (d / Nat.gcd n d) = 1
  rw [Nat.gcd_div (Nat.gcd_dvd_left n d) (Nat.gcd_dvd_right n d)]
  exact Nat.div_self (Nat.gcd_pos_of_pos_right n h)
theorem div_cross {a b c d : Nat} (hb : 0 < b) (hd : 0 < d) : (a : Rat) / (b : Rat) = (c : Rat) / (d : Rat) ↔ a * d = c * b := by
  have h1 := cast_ne hb
  have h2 := cast_ne hd
  constructor
  · intro h
    have : (a : Rat) * d = c * b := by grind
    exact_mod_cast this
  · intro h
    have : (a : Rat) * d = c * b := by exact_mod_cast h
    grind
theorem le_cross {a b c d : Nat} (hb : 0 < b) (hd : 0 < d) : (a : Rat) / (b : Rat) ≤ (c : Rat) / (d : Rat) ↔ a * d ≤ c * b := by
  have h1 := cast_pos hb
  have h2 := cast_pos hd
  have e1 : (a : Rat) / b * (b * d) = a * d := by grind
  have e2 : (c : Rat) / d * (b * d) = c * b := by grind
  have h3 : (0 : Rat) < b * d := Rat.mul_pos h1 h2
  constructor
  · intro h
    have : (a : Rat) / b * (b * d) ≤ (c : Rat) / d * (b * d) := Rat.mul_le_mul_of_nonneg_right h (by grind)
    rw [e1, e2] at this
    exact_mod_cast this
  · intro h
    have h' : (a : Rat) * d ≤ c * b := by exact_mod_cast h
    rw [← e1, ← e2] at h'
    exact Rat.le_of_mul_le_mul_right h' h3
theorem val_frac {n d : Nat} (h : 0 < d) : val (frac n d) = (n : Rat) / (d : Rat) := by
  unfold val
  rw [div_cross (frac_pos h) h]
  show n / Nat.gcd n d * d = n * (d / Nat.gcd n d)
  obtain ⟨k, hk⟩ := Nat.gcd_dvd_right n d
  obtain ⟨j, hj⟩ := Nat.gcd_dvd_left n d
  have hg := Nat.gcd_pos_of_pos_right n h
  generalize Nat.gcd n d = g at *
  subst hj hk
  rw [Nat.mul_div_cancel_left _ hg, Nat.mul_div_cancel_left _ hg]
  rw [Nat.mul_left_comm, Nat.mul_comm j k, Nat.mul_assoc, Nat.mul_comm j k]
theorem Good.inj {a b : Frac} (ha : Good a) (hb : Good b) (h : val a = val b) : a = b := by
  unfold val at h
  rw [div_cross ha.pos hb.pos] at h
  have c1 : Nat.Coprime a.n a.d := ha.cop
  have c2 : Nat.Coprime b.n b.d := hb.cop
  have d1 : a.d ∣ b.d := by
    have : a.d ∣ a.n * b.d := ⟨b.n, by rw [h, Nat.mul_comm]⟩
    exact c1.symm.dvd_of_dvd_mul_left this
  have d2 : b.d ∣ a.d := by
    have : b.d ∣ b.n * a.d := ⟨a.n, by rw [← h, Nat.mul_comm]⟩
    exact c2.symm.dvd_of_dvd_mul_left this
  have e : a.d = b.d := Nat.dvd_antisymm d1 d2
  have e2 : a.n = b.n := by
    rw [e] at h
    exact Nat.eq_of_mul_eq_mul_right hb.pos h
  cases a; cases b; simp_all
theorem zero_good : Good zero := ⟨by decide, by decide⟩
theorem one_good : Good one := ⟨by decide, by decide⟩
theorem zero_U : U zero := ⟨zero_good, by decide⟩
theorem one_U : U one := ⟨one_good, by decide⟩
theorem val_zero : val zero = 0 := by unfold val zero; grind
theorem val_one : val one = 1 := by unfold val one; grind
theorem val_nn (q : Frac) : 0 ≤ val q := by
  unfold val
  have h := cast_nn q.n
  by_cases hd : q.d = 0
  · rw [hd]; grind
  · have h2 := cast_pos (Nat.pos_of_ne_zero hd)
    have e : (q.n : Rat) = (q.n : Rat) / q.d * q.d := by grind
    rw [e] at h
    exact Rat.le_of_mul_le_mul_right (a := 0) (by grind) h2
theorem val_le_one {q : Frac} (h : Good q) : val q ≤ 1 ↔ q.n ≤ q.d := by
  have e : val one = ((1 : Nat) : Rat) / ((1 : Nat) : Rat) := rfl
  rw [← val_one, e]
  unfold val
  rw [le_cross h.pos Nat.one_pos]
  omega
theorem U.le1 {q : Frac} (h : U q) : val q ≤ 1 := (val_le_one h.good).mpr h.le
theorem U.of {q : Frac} (h : Good q) (l : val q ≤ 1) : U q := ⟨h, (val_le_one h).mp l⟩
theorem U.nn {q : Frac} (h : U q) : 0 ≤ val q := val_nn q
theorem val_eq_zero {q : Frac} (h : Good q) : val q = 0 ↔ q.n = 0 := by
  constructor
  · intro z
    have := Good.inj h zero_good (z.trans val_zero.symm)
    rw [this]; rfl
  · intro z
    unfold val
    rw [z]
    grind
theorem eq_zero {q : Frac} (h : Good q) (z : q.n = 0) : q = zero := Good.inj h zero_good (((val_eq_zero h).mpr z).trans val_zero.symm)
theorem le_iff {a b : Frac} (ha : Good a) (hb : Good b) : a.le b = true ↔ val a ≤ val b := by
  unfold Frac.le val
  rw [le_cross ha.pos hb.pos, decide_eq_true_iff]
/-! the operations -/
theorem add_good {a b : Frac} (ha : Good a) (hb : Good b) : Good (a.add b) := frac_good (Nat.mul_pos ha.pos hb.pos)
theorem mul_good {a b : Frac} (ha : Good a) (hb : Good b) : Good (a.mul b) := frac_good (Nat.mul_pos ha.pos hb.pos)
theorem sub_good {a b : Frac} (ha : Good a) (hb : Good b) : Good (a.sub b) := frac_good (Nat.mul_pos ha.pos hb.pos)
theorem val_add {a b : Frac} (ha : Good a) (hb : Good b) : val (a.add b) = val a + val b := by
  unfold Frac.add
  rw [val_frac (Nat.mul_pos ha.pos hb.pos)]
  unfold val
  have h1 := cast_ne ha.pos
  have h2 := cast_ne hb.pos
  push_cast
  grind
theorem val_mul {a b : Frac} (ha : Good a) (hb : Good b) : val (a.mul b) = val a * val b := by
  unfold Frac.mul
  rw [val_frac (Nat.mul_pos ha.pos hb.pos)]
  unfold val
  have h1 := cast_ne ha.pos
  have h2 := cast_ne hb.pos
  push_cast
  grind
theorem cast_sub {a b : Nat} (h : b ≤ a) : ((a - b : Nat) : Rat) = (a : Rat) - (b : Rat) := by
  have : ((a - b : Nat) : Rat) + (b : Rat) = (a : Rat) := by exact_mod_cast Nat.sub_add_cancel h
  grind
theorem val_sub {a b : Frac} (ha : Good a) (hb : Good b) (h : val b ≤ val a) : val (a.sub b) = val a - val b := by
  unfold Frac.sub
  rw [val_frac (Nat.mul_pos ha.pos hb.pos)]
  have l : b.n * a.d ≤ a.n * b.d := by
    unfold val at h
    exact (le_cross hb.pos ha.pos).mp h
  rw [cast_sub l]
  unfold val
  have h1 := cast_ne ha.pos
  have h2 := cast_ne hb.pos
  push_cast
  grind
theorem val_sub0 {a b : Frac} (ha : Good a) (hb : Good b) (h : val a ≤ val b) : val (a.sub b) = 0 := by
  unfold Frac.sub
  rw [val_frac (Nat.mul_pos ha.pos hb.pos)]
  have l : a.n * b.d ≤ b.n * a.d := by
    unfold val at h
    exact (le_cross ha.pos hb.pos).mp h
  rw [Nat.sub_eq_zero_of_le l]
  grind
theorem rest_good {a : Frac} (h : Good a) : Good (rest a) := sub_good one_good h
theorem val_rest {a : Frac} (h : U a) : val (rest a) = 1 - val a := by
  unfold rest
  rw [val_sub one_good h.good (by rw [val_one]; exact h.le1), val_one]
theorem rest_U {a : Frac} (h : U a) : U (rest a) := U.of (rest_good h.good) (by have := h.nn; rw [val_rest h]; grind)
theorem mul_U {a b : Frac} (ha : U a) (hb : U b) : U (a.mul b) := U.of (mul_good ha.good hb.good) (by
  rw [val_mul ha.good hb.good]
  have h1 := ha.nn
  have h2 := ha.le1
  have h3 := hb.nn
  have h4 := hb.le1
  have := Rat.mul_nonneg h1 (show 0 ≤ 1 - val b by grind)
  grind)
theorem by_good {a b : Frac} (ha : Good a) (hb : Good b) : Good (a.by_ b) := by
  unfold Frac.by_
  split
  · exact zero_good
  · exact frac_good (Nat.mul_pos ha.pos (by omega))
theorem val_by {a b : Frac} (ha : Good a) (hb : Good b) : val (a.by_ b) = val a / val b := by
  unfold Frac.by_
  split
  · rename_i h
    rw [val_zero]
    rcases h with h | h
    · rw [(val_eq_zero ha).mpr h]; grind
    · rw [(val_eq_zero hb).mpr h]; grind
  · rename_i h
    have hbn : 0 < b.n := by omega
    rw [val_frac (Nat.mul_pos ha.pos hbn)]
    unfold val
    have h1 := cast_ne ha.pos
    have h2 := cast_ne hb.pos
    have h3 := cast_ne hbn
    push_cast
    grind
theorem two_good : Good two := ⟨by decide, by decide⟩
theorem val_two : val two = 2 := by unfold val two; grind
theorem half_good : Good (⟨1, 2⟩ : Frac) := ⟨by decide, by decide⟩
theorem half_U : U (⟨1, 2⟩ : Frac) := ⟨half_good, by decide⟩
theorem val_half : val ⟨1, 2⟩ = 1 / 2 := by unfold val; grind
theorem min_good {a b : Frac} (ha : Good a) (hb : Good b) : Good (a.min b) := by unfold Frac.min; split <;> assumption
theorem max_good {a b : Frac} (ha : Good a) (hb : Good b) : Good (a.max b) := by unfold Frac.max; split <;> assumption
theorem min_U {a b : Frac} (ha : U a) (hb : U b) : U (a.min b) := by unfold Frac.min; split <;> assumption
theorem max_U {a b : Frac} (ha : U a) (hb : U b) : U (a.max b) := by unfold Frac.max; split <;> assumption
theorem ofByte_good (k : Nat) : Good (ofByte k) := frac_good (by decide)
theorem ofByte_U {k : Nat} (h : k ≤ 255) : U (ofByte k) := U.of (ofByte_good k) (by
  unfold ofByte
  rw [val_frac (by decide)]
  have e : (1 : Rat) = ((1 : Nat) : Rat) / ((1 : Nat) : Rat) := by grind
  rw [e, le_cross (by decide) (by decide)]
  omega)
/-! the program's own -/
/-- 1 less a fraction -/
def compl (q : Frac) : Frac := ⟨q.d - q.n, q.d⟩
theorem compl_good {q : Frac} (h : U q) : Good (compl q) := ⟨h.good.pos, by
  show Nat.gcd (q.d - q.n) q.d = 1
  rw [Nat.gcd_self_sub_left h.le]
  exact h.good.cop⟩
theorem val_compl {q : Frac} (h : U q) : val (compl q) = 1 - val q := by
  unfold val compl
  show ((q.d - q.n : Nat) : Rat) / (q.d : Rat) = _
  rw [cast_sub h.le]
  have := cast_ne h.good.pos
  grind
theorem compl_rest {q : Frac} (h : U q) : compl q = rest q := Good.inj (compl_good h) (rest_good h.good) (by rw [val_compl h, val_rest h])
theorem compl_U {q : Frac} (h : U q) : U (compl q) := by rw [compl_rest h]; exact rest_U h
theorem half_iff {q : Frac} : q.le ⟨1, 2⟩ = decide (2 * q.n ≤ q.d) := by
  unfold Frac.le
  show decide (q.n * 2 ≤ 1 * q.d) = _
  rw [Nat.mul_comm, Nat.one_mul]
/-- the least common multiple, as the loop makes it -/
def lcmAll (vs : List Frac) (b : Nat) : Nat := vs.foldl (fun b v => b / Nat.gcd b v.d * v.d) b
def topAll (bot : Nat) (ps : List (Nat × Frac)) (t : Nat) : Nat := ps.foldl (fun t p => t + p.1 * p.2.n * (bot / p.2.d)) t
def mean (ws : List Nat) (vs : List Frac) : Frac := frac (topAll (lcmAll vs 1) (ws.zip vs) 0) (ws.sum * lcmAll vs 1)
theorem lcm_step {b d : Nat} (hb : 0 < b) : b / Nat.gcd b d * d = Nat.lcm b d := by
  unfold Nat.lcm
  rw [Nat.mul_comm, ← Nat.mul_div_assoc d (Nat.gcd_dvd_left b d), Nat.mul_comm]
theorem lcmAll_pos : ∀ {vs : List Frac} {b : Nat}, 0 < b → (∀ v ∈ vs, Good v) → 0 < lcmAll vs b
  | [], _, h, _ => h
  | v :: r, b, h, g => by
    show 0 < lcmAll r (b / Nat.gcd b v.d * v.d)
    rw [lcm_step h]
    exact lcmAll_pos (Nat.lcm_pos h (g v (by simp)).pos) fun x hx => g x (List.mem_cons_of_mem _ hx)
theorem lcmAll_dvd : ∀ {vs : List Frac} {b : Nat}, 0 < b → (∀ v ∈ vs, Good v) → b ∣ lcmAll vs b ∧ ∀ v ∈ vs, v.d ∣ lcmAll vs b
  | [], _, h, _ => ⟨Nat.dvd_refl _, fun _ z => nomatch z⟩
  | v :: r, b, h, g => by
    show b ∣ lcmAll r (b / Nat.gcd b v.d * v.d) ∧ ∀ x ∈ v :: r, x.d ∣ lcmAll r (b / Nat.gcd b v.d * v.d)
    rw [lcm_step h]
    obtain ⟨h1, h2⟩ := lcmAll_dvd (vs := r) (Nat.lcm_pos h (g v (by simp)).pos) fun x hx => g x (List.mem_cons_of_mem _ hx)
    refine ⟨Nat.dvd_trans (Nat.dvd_lcm_left _ _) h1, fun x hx => ?_⟩
    rcases List.mem_cons.mp hx with rfl | hx
    · exact Nat.dvd_trans (Nat.dvd_lcm_right _ _) h1
    · exact h2 x hx
/-- every common multiple is one of it -/
theorem lcmAll_least : ∀ {vs : List Frac} {b m : Nat}, 0 < b → (∀ v ∈ vs, Good v) → b ∣ m → (∀ v ∈ vs, v.d ∣ m) → lcmAll vs b ∣ m
  | [], _, _, _, _, h, _ => h
  | v :: r, b, m, hb, g, h, k => by
    show lcmAll r (b / Nat.gcd b v.d * v.d) ∣ m
    rw [lcm_step hb]
    exact lcmAll_least (Nat.lcm_pos hb (g v (by simp)).pos) (fun x hx => g x (by simp [hx])) (Nat.lcm_dvd h (k v (by simp))) fun x hx => k x (by simp [hx])
/-- the weighted sum -/
def wsum : List (Nat × Frac) → Rat
  | [] => 0
  | p :: r => (p.1 : Rat) * val p.2 + wsum r
theorem topAll_val {bot : Nat} (hb : 0 < bot) : ∀ (ps : List (Nat × Frac)) (t : Nat), (∀ p ∈ ps, Good p.2 ∧ p.2.d ∣ bot) → ((topAll bot ps t : Nat) : Rat) = (t : Rat) + (bot : Rat) * wsum ps
  | [], t, _ => by
    show (t : Rat) = t + bot * 0
    grind
  | p :: r, t, h => by
    show ((topAll bot r (t + p.1 * p.2.n * (bot / p.2.d)) : Nat) : Rat) = t + bot * (p.1 * val p.2 + wsum r)
    rw [topAll_val hb r _ fun x hx => h x (by simp [hx])]
    obtain ⟨g, k, hk⟩ := h p (by simp)
    have e : bot / p.2.d = k := by rw [hk]; exact Nat.mul_div_cancel_left _ g.pos
    rw [e]
    have hd := cast_ne g.pos
    have hk' : (bot : Rat) = p.2.d * k := by exact_mod_cast hk
    rw [hk']
    unfold val
    push_cast
    grind
theorem mean_good {ws : List Nat} {vs : List Frac} (hw : 0 < ws.sum) (g : ∀ v ∈ vs, Good v) : Good (mean ws vs) := frac_good (Nat.mul_pos hw (lcmAll_pos Nat.one_pos g))
theorem val_mean {ws : List Nat} {vs : List Frac} (hw : 0 < ws.sum) (g : ∀ v ∈ vs, Good v) : val (mean ws vs) = wsum (ws.zip vs) / (ws.sum : Nat) := by
  have hb := lcmAll_pos Nat.one_pos g
  unfold mean
  rw [val_frac (Nat.mul_pos hw hb), topAll_val hb _ _ fun p hp => ⟨g _ (List.of_mem_zip hp).2, (lcmAll_dvd Nat.one_pos g).2 _ (List.of_mem_zip hp).2⟩]
  have h1 := cast_ne hw
  have h2 := cast_ne hb
  push_cast
  grind
end LM

set_option Elab.async false
set_option linter.all false
namespace LM
open Ie02
/-! the modes, as the program has them -/
def hardP (b s : Frac) : Frac := if 2 * s.n ≤ s.d then two.mul (s.mul b) else compl (two.mul ((compl s).mul (compl b)))
def dodgeP (b s : Frac) : Frac := if b.n = 0 then zero else if (compl s).le b = true then one else frac (b.n * (compl s).d) (b.d * (compl s).n)
def burnP (b s : Frac) : Frac := if b.n = b.d then one else if s.le (compl b) = true then zero else compl (frac ((compl b).n * s.d) ((compl b).d * s.n))
def subP (b s : Frac) : Frac := if b.le s = true then zero else b.sub s
def blendP (mode : Nat) (b s : Frac) : Frac := match mode with
  | 0 => s
  | 1 => b.mul s
  | 2 => compl ((compl b).mul (compl s))
  | 3 => hardP s b
  | 4 => hardP b s
  | 5 => b.min s
  | 6 => b.max s
  | 7 => (b.max s).sub (b.min s)
  | 8 => (b.add s).min one
  | 9 => subP b s
  | 10 => dodgeP b s
  | _ => burnP b s
theorem ndec {a b : Frac} (ha : Good a) (hb : Good b) (h : ¬ a.le b = true) : val b ≤ val a := by
  rw [le_iff ha hb] at h
  grind
theorem val_min {a b : Frac} (ha : Good a) (hb : Good b) : (val a ≤ val b ∧ val (a.min b) = val a) ∨ (val b ≤ val a ∧ val (a.min b) = val b) := by
  unfold Frac.min
  split
  · rename_i h
    exact .inl ⟨(le_iff ha hb).mp h, rfl⟩
  · rename_i h
    exact .inr ⟨ndec ha hb h, rfl⟩
theorem val_max {a b : Frac} (ha : Good a) (hb : Good b) : (val a ≤ val b ∧ val (a.max b) = val b) ∨ (val b ≤ val a ∧ val (a.max b) = val a) := by
  unfold Frac.max
  split
  · rename_i h
    exact .inl ⟨(le_iff ha hb).mp h, rfl⟩
  · rename_i h
    exact .inr ⟨ndec ha hb h, rfl⟩
theorem le_half {q : Frac} (h : Good q) : q.le ⟨1, 2⟩ = true ↔ val q ≤ 1 / 2 := by rw [le_iff h half_good, val_half]
theorem mul_half1 {a b : Rat} (h1 : 0 ≤ a) (h2 : a ≤ 1 / 2) (h3 : 0 ≤ b) (h4 : b ≤ 1) : 0 ≤ 2 * (a * b) ∧ 2 * (a * b) ≤ 1 := by
  have e1 := Rat.mul_nonneg h1 h3
  have e2 := Rat.mul_nonneg (show 0 ≤ 1 / 2 - a by grind) h3
  constructor <;> grind
theorem compl_n_pos {s : Frac} (h : U s) (n : ¬ val s = 1) : 0 < (compl s).n := by
  refine Nat.pos_of_ne_zero fun z => n ?_
  have e := (val_eq_zero (compl_good h)).mpr z
  rw [val_compl h] at e
  grind
theorem hard_vals {b s : Frac} (hb : U b) (hs : U s) : U (hardP b s) ∧ hardP b s = hard b s := by
  have g2 : Good (two.mul (s.mul b)) := mul_good two_good (mul_good hs.good hb.good)
  have g3 : Good (two.mul ((compl s).mul (compl b))) := mul_good two_good (mul_good (compl_good hs) (compl_good hb))
  have g4 : Good ((two.mul s).mul b) := mul_good (mul_good two_good hs.good) hb.good
  have g5 : Good ((two.mul (rest s)).mul (rest b)) := mul_good (mul_good two_good (rest_good hs.good)) (rest_good hb.good)
  unfold hardP hard
  by_cases h : 2 * s.n ≤ s.d
  · rw [if_pos h, if_pos (show s.le ⟨1, 2⟩ = true by rw [half_iff, decide_eq_true_iff]; exact h)]
    have hv : val s ≤ 1 / 2 := by
      rw [← le_half hs.good, half_iff, decide_eq_true_iff]; exact h
    have v : val (two.mul (s.mul b)) = 2 * (val s * val b) := by rw [val_mul two_good (mul_good hs.good hb.good), val_mul hs.good hb.good, val_two]
    have m := mul_half1 hs.nn hv hb.nn hb.le1
    refine ⟨U.of g2 (by rw [v]; exact m.2), g2.inj g4 ?_⟩
    rw [v, val_mul (mul_good two_good hs.good) hb.good, val_mul two_good hs.good, val_two]
    grind
  · rw [if_neg h, if_neg (show ¬ s.le ⟨1, 2⟩ = true by rw [half_iff, decide_eq_true_iff]; exact h)]
    have hv : 1 / 2 ≤ val s := by
      have := fun z => h (by rw [← decide_eq_true_iff (p := 2 * s.n ≤ s.d), ← half_iff]; exact (le_half hs.good).mpr z)
      grind
    have v : val (two.mul ((compl s).mul (compl b))) = 2 * ((1 - val s) * (1 - val b)) := by
      rw [val_mul two_good (mul_good (compl_good hs) (compl_good hb)), val_mul (compl_good hs) (compl_good hb), val_two, val_compl hs, val_compl hb]
    have h1 := hs.le1
    have h2 := hb.nn
    have h3 := hb.le1
    have m := mul_half1 (a := 1 - val s) (b := 1 - val b) (by grind) (by grind) (by grind) (by grind)
    have u3 : U (two.mul ((compl s).mul (compl b))) := U.of g3 (by rw [v]; exact m.2)
    have e : (two.mul ((compl s).mul (compl b))) = ((two.mul (rest s)).mul (rest b)) := g3.inj g5 (by
      rw [v, val_mul (mul_good two_good (rest_good hs.good)) (rest_good hb.good), val_mul two_good (rest_good hs.good), val_two, val_rest hs, val_rest hb]
      grind)
    exact ⟨compl_U u3, by rw [compl_rest u3, e]⟩
theorem val_fracdiv {a b : Frac} (ha : Good a) (hb : Good b) (hn : 0 < b.n) : Good (frac (a.n * b.d) (a.d * b.n)) ∧ val (frac (a.n * b.d) (a.d * b.n)) = val a / val b := by
  refine ⟨frac_good (Nat.mul_pos ha.pos hn), ?_⟩
  rw [val_frac (Nat.mul_pos ha.pos hn)]
  unfold val
  have h1 := cast_ne ha.pos
  have h2 := cast_ne hb.pos
  have h3 := cast_ne hn
  push_cast
  grind
theorem val_one_iff {q : Frac} (h : Good q) : val q = 1 ↔ q = one := by
  constructor
  · intro z
    exact h.inj one_good (z.trans val_one.symm)
  · intro z
    rw [z, val_one]
theorem nd_one {q : Frac} (h : Good q) : q.n = q.d ↔ q = one := by
  constructor
  · intro z
    have := h.cop
    rw [z, Nat.gcd_self] at this
    cases q
    simp_all [one]
  · intro z
    rw [z]; rfl
theorem div_le_one {a b : Rat} (ha : 0 ≤ a) (h : a ≤ b) (hb : 0 < b) : 0 ≤ a / b ∧ a / b ≤ 1 := by
  have e : a = a / b * b := by grind
  constructor
  · exact Rat.le_of_mul_le_mul_right (a := 0) (b := a / b) (by grind) hb
  · exact Rat.le_of_mul_le_mul_right (a := a / b) (b := 1) (by grind) hb
theorem one_le_div {a b : Rat} (h : b ≤ a) (hb : 0 < b) : 1 ≤ a / b := by
  have e : a = a / b * b := by grind
  exact Rat.le_of_mul_le_mul_right (a := 1) (b := a / b) (by grind) hb
theorem dodge_vals {b s : Frac} (hb : U b) (hs : U s) : U (dodgeP b s) ∧ dodgeP b s = mixPart 10 b s := by
  unfold dodgeP
  show _ ∧ _ = if b.n = 0 then zero else if s = one then one else (b.by_ (rest s)).min one
  by_cases h0 : b.n = 0
  · rw [if_pos h0, if_pos h0]; exact ⟨zero_U, rfl⟩
  rw [if_neg h0, if_neg h0]
  have cg := compl_good hs
  by_cases h1 : s = one
  · rw [if_pos h1, if_pos ((le_iff cg hb.good).mpr (by rw [val_compl hs, h1, val_one]; have := hb.nn; grind))]
    exact ⟨one_U, rfl⟩
  rw [if_neg h1]
  have n1 : ¬ val s = 1 := fun z => h1 ((val_one_iff hs.good).mp z)
  have cp := compl_n_pos hs n1
  have lt : 0 < 1 - val s := by have := hs.le1; grind
  have gb := by_good hb.good (rest_good hs.good)
  have vb := val_by hb.good (rest_good hs.good)
  rw [val_rest hs] at vb
  by_cases hl : (compl s).le b = true
  · rw [if_pos hl]
    rw [le_iff cg hb.good, val_compl hs] at hl
    refine ⟨one_U, ?_⟩
    rcases val_min gb one_good with ⟨l, e⟩ | ⟨l, e⟩
    · refine one_good.inj (min_good gb one_good) ?_
      have := one_le_div hl lt
      rw [e, val_one, vb]
      rw [vb, val_one] at l
      grind
    · exact one_good.inj (min_good gb one_good) e.symm
  · rw [if_neg hl]
    have hl' := ndec cg hb.good hl
    rw [val_compl hs] at hl'
    obtain ⟨gq, vq⟩ := val_fracdiv hb.good cg cp
    rw [val_compl hs] at vq
    have bnd := div_le_one hb.nn hl' lt
    refine ⟨U.of gq (by rw [vq]; exact bnd.2), gq.inj (min_good gb one_good) ?_⟩
    rcases val_min gb one_good with ⟨l, e⟩ | ⟨l, e⟩
    · rw [e, vq, vb]
    · rw [e, vq, val_one]
      rw [vb, val_one] at l
      grind
theorem burn_vals {b s : Frac} (hb : U b) (hs : U s) : U (burnP b s) ∧ burnP b s = mixPart 11 b s := by
  unfold burnP
  show _ ∧ _ = if b = one then one else if s.n = 0 then zero else rest (((rest b).by_ s).min one)
  by_cases h0 : b = one
  · rw [if_pos h0, if_pos ((nd_one hb.good).mpr h0)]; exact ⟨one_U, rfl⟩
  rw [if_neg h0, if_neg (fun z => h0 ((nd_one hb.good).mp z))]
  have cg := compl_good hb
  have n1 : ¬ val b = 1 := fun z => h0 ((val_one_iff hb.good).mp z)
  have lt : 0 < 1 - val b := by have := hb.le1; grind
  by_cases h1 : s.n = 0
  · rw [if_pos h1, if_pos ((le_iff hs.good cg).mpr (by rw [val_compl hb, (val_eq_zero hs.good).mpr h1]; grind))]
    exact ⟨zero_U, rfl⟩
  rw [if_neg h1]
  have sp : 0 < s.n := Nat.pos_of_ne_zero h1
  have sv : 0 < val s := by
    have := hs.nn
    have : ¬ val s = 0 := fun z => h1 ((val_eq_zero hs.good).mp z)
    grind
  have gb := by_good (rest_good hb.good) hs.good
  have vb := val_by (rest_good hb.good) hs.good
  rw [val_rest hb] at vb
  have mg := min_good gb one_good
  have vn := val_nn ((rest b).by_ s)
  have mU : U (((rest b).by_ s).min one) := U.of mg (by
    rcases val_min gb one_good with ⟨l, e⟩ | ⟨l, e⟩
    · rw [e]; rw [val_one] at l; exact l
    · rw [e, val_one]; grind)
  by_cases hl : s.le (compl b) = true
  · rw [if_pos hl]
    rw [le_iff hs.good cg, val_compl hb] at hl
    refine ⟨zero_U, zero_good.inj (rest_good mg) ?_⟩
    rw [val_rest mU, val_zero]
    have := one_le_div hl sv
    rcases val_min gb one_good with ⟨l, e⟩ | ⟨l, e⟩
    · rw [e, vb]; rw [vb, val_one] at l; grind
    · rw [e, val_one]; grind
  · rw [if_neg hl]
    have hl' := ndec hs.good cg hl
    rw [val_compl hb] at hl'
    obtain ⟨gq, vq⟩ := val_fracdiv cg hs.good sp
    rw [val_compl hb] at vq
    have bnd := div_le_one (a := 1 - val b) (by grind) hl' sv
    have uq : U (frac ((compl b).n * s.d) ((compl b).d * s.n)) := U.of gq (by rw [vq]; exact bnd.2)
    refine ⟨compl_U uq, (compl_good uq).inj (rest_good mg) ?_⟩
    rw [val_compl uq, val_rest mU, vq]
    rcases val_min gb one_good with ⟨l, e⟩ | ⟨l, e⟩
    · rw [e, vb]
    · rw [e, val_one]; rw [vb, val_one] at l; grind
theorem blend_vals (m : Nat) {b s : Frac} (hb : U b) (hs : U s) : U (blendP m b s) ∧ blendP m b s = mixPart m b s := by
  have gb := hb.good
  have gs := hs.good
  match m with
  | 0 => exact ⟨hs, rfl⟩
  | 1 => exact ⟨mul_U hb hs, rfl⟩
  | 2 =>
    have u := mul_U (compl_U hb) (compl_U hs)
    refine ⟨compl_U u, ?_⟩
    show compl ((compl b).mul (compl s)) = rest ((rest b).mul (rest s))
    rw [compl_rest u, compl_rest hb, compl_rest hs]
  | 3 => exact hard_vals hs hb
  | 4 => exact hard_vals hb hs
  | 5 => exact ⟨min_U hb hs, rfl⟩
  | 6 => exact ⟨max_U hb hs, rfl⟩
  | 7 =>
    show U ((b.max s).sub (b.min s)) ∧ (b.max s).sub (b.min s) = (b.sub s).max (s.sub b)
    have gM := max_good gb gs
    have gm := min_good gb gs
    have g1 := sub_good gb gs
    have g2 := sub_good gs gb
    have n1 := hb.nn
    have n2 := hs.nn
    have l1 := hb.le1
    have l2 := hs.le1
    rcases Rat.le_total (a := val b) (b := val s) with l | l
    · have eM : val (b.max s) = val s := by rcases val_max gb gs with ⟨_, e⟩ | ⟨k, e⟩ <;> grind
      have em : val (b.min s) = val b := by rcases val_min gb gs with ⟨_, e⟩ | ⟨k, e⟩ <;> grind
      have v : val ((b.max s).sub (b.min s)) = val s - val b := by rw [val_sub gM gm (by rw [eM, em]; exact l), eM, em]
      refine ⟨U.of (sub_good gM gm) (by rw [v]; grind), (sub_good gM gm).inj (max_good g1 g2) ?_⟩
      have a1 := val_sub0 gb gs l
      have a2 := val_sub gs gb l
      rcases val_max g1 g2 with ⟨k, e⟩ | ⟨k, e⟩ <;> grind
    · have eM : val (b.max s) = val b := by rcases val_max gb gs with ⟨_, e⟩ | ⟨k, e⟩ <;> grind
      have em : val (b.min s) = val s := by rcases val_min gb gs with ⟨_, e⟩ | ⟨k, e⟩ <;> grind
      have v : val ((b.max s).sub (b.min s)) = val b - val s := by rw [val_sub gM gm (by rw [eM, em]; exact l), eM, em]
      refine ⟨U.of (sub_good gM gm) (by rw [v]; grind), (sub_good gM gm).inj (max_good g1 g2) ?_⟩
      have a1 := val_sub gb gs l
      have a2 := val_sub0 gs gb l
      rcases val_max g1 g2 with ⟨k, e⟩ | ⟨k, e⟩ <;> grind
  | 8 =>
    have g := add_good gb gs
    refine ⟨U.of (min_good g one_good) ?_, rfl⟩
    show val ((b.add s).min one) ≤ 1
    rcases val_min g one_good with ⟨k, e⟩ | ⟨k, e⟩
    · rw [e]; rw [val_one] at k; exact k
    · rw [e, val_one]; grind
  | 9 =>
    show U (subP b s) ∧ subP b s = b.sub s
    unfold subP
    by_cases h : b.le s = true
    · rw [if_pos h]
      exact ⟨zero_U, zero_good.inj (sub_good gb gs) (by rw [val_zero, val_sub0 gb gs ((le_iff gb gs).mp h)])⟩
    · rw [if_neg h]
      have l := ndec gb gs h
      have n2 := hs.nn
      have l1 := hb.le1
      exact ⟨U.of (sub_good gb gs) (by rw [val_sub gb gs l]; grind), rfl⟩
  | 10 => exact dodge_vals hb hs
  | k + 11 => exact burn_vals hb hs
end LM

set_option Elab.async false
set_option linter.all false
namespace LM
open Ie02
/-! pixels, as the program has them -/
structure UC (c : Colour) : Prop where
  r : U c.r
  g : U c.g
  b : U c.b
structure UP (p : Px) : Prop where
  c : UC p.c
  a : U p.a
theorem black_UC : UC black := ⟨zero_U, zero_U, zero_U⟩
theorem nothing_UP : UP nothing := ⟨black_UC, zero_U⟩
theorem map_UC {f : Frac → Frac} {c : Colour} (h : UC c) (hf : ∀ x, U x → U (f x)) : UC (c.map f) := ⟨hf _ h.r, hf _ h.g, hf _ h.b⟩
theorem map_eq {f g : Frac → Frac} {c : Colour} (h : UC c) (hf : ∀ x, U x → f x = g x) : c.map f = c.map g := by
  unfold Colour.map
  rw [hf _ h.r, hf _ h.g, hf _ h.b]
theorem map2_UC {f : Frac → Frac → Frac} {a b : Colour} (h : UC a) (k : UC b) (hf : ∀ x y, U x → U y → U (f x y)) : UC (Colour.map2 f a b) := ⟨hf _ _ h.r k.r, hf _ _ h.g k.g, hf _ _ h.b k.b⟩
theorem map2_eq {f g : Frac → Frac → Frac} {a b : Colour} (h : UC a) (k : UC b) (hf : ∀ x y, U x → U y → f x y = g x y) : Colour.map2 f a b = Colour.map2 g a b := by
  unfold Colour.map2
  rw [hf _ _ h.r k.r, hf _ _ h.g k.g, hf _ _ h.b k.b]
theorem n_val {q : Frac} (h : Good q) : (q.n : Rat) = val q * q.d := by
  unfold val
  have := cast_ne h.pos
  grind
theorem wsum_nn : ∀ ps : List (Nat × Frac), 0 ≤ wsum ps
  | [] => Rat.le_refl
  | p :: r => by
    show 0 ≤ (p.1 : Rat) * val p.2 + wsum r
    have h1 := Rat.mul_nonneg (cast_nn p.1) (val_nn p.2)
    have h2 := wsum_nn r
    grind
theorem wsum_le : ∀ (ws : List Nat) (vs : List Frac), (∀ v ∈ vs, U v) → wsum (ws.zip vs) ≤ (ws.sum : Nat)
  | [], _, _ => by
    show (0 : Rat) ≤ ((0 : Nat) : Rat)
    exact Rat.le_refl
  | w :: ws, [], _ => by
    show (0 : Rat) ≤ _
    exact cast_nn _
  | w :: ws, v :: vs, h => by
    show (w : Rat) * val v + wsum (ws.zip vs) ≤ (((w :: ws).sum : Nat) : Rat)
    have h1 := wsum_le ws vs fun x hx => h x (List.mem_cons_of_mem _ hx)
    have h2 := (h v (List.mem_cons_self ..)).le1
    have h3 := Rat.mul_nonneg (cast_nn w) (show 0 ≤ 1 - val v by grind)
    rw [List.sum_cons]
    push_cast
    grind
theorem mean_U {ws : List Nat} {vs : List Frac} (hw : 0 < ws.sum) (g : ∀ v ∈ vs, U v) : U (mean ws vs) := by
  have gg : ∀ v ∈ vs, Good v := fun v hv => (g v hv).good
  refine U.of (mean_good hw gg) ?_
  rw [val_mean hw gg]
  exact (div_le_one (wsum_nn _) (wsum_le ws vs g) (cast_pos hw)).2
def shares3 (ap be : Frac) : List Nat := [ap.n * (be.d - be.n), ap.n * be.n, (ap.d - ap.n) * be.n]
def overP (mode : Nat) (w : Frac) (low up : Px) : Px :=
  let ap := w.mul up.a
  let sh := shares3 ap low.a
  let al := frac sh.sum (ap.d * low.a.d)
  if al.n = 0 then nothing else ⟨Colour.map2 (fun B S => mean sh [S, blendP mode B S, B]) low.c up.c, al⟩
def shares2 (ap : Frac) : List Nat := [ap.d - ap.n, ap.n]
def atopP (mode : Nat) (w : Frac) (low up : Px) : Px :=
  if low.a.n = 0 then nothing else ⟨Colour.map2 (fun B S => mean (shares2 (w.mul up.a)) [B, blendP mode B S]) low.c up.c, low.a⟩
def sharesM (o n : Frac) : List Nat := [o.n * n.d, n.n * o.d]
def mixP (w : Frac) (p q : Px) : Px :=
  let o := (compl w).mul p.a
  let n := w.mul q.a
  let sh := sharesM o n
  let al := frac sh.sum (o.d * n.d)
  if al.n = 0 then nothing else ⟨Colour.map2 (fun x y => mean sh [x, y]) p.c q.c, al⟩
def nearP (x : Frac) : Frac := if 2 * x.n ≤ x.d then (⟨1, 2⟩ : Frac).mul x else compl ((⟨1, 2⟩ : Frac).mul (compl x))
def changedP (how : Nat) (c : Colour) : Colour := match how with
  | 0 => c.map compl
  | 1 => let g := mean [3, 6, 1] [c.r, c.g, c.b]
    ⟨g, g, g⟩
  | _ => c.map nearP
/-! they are the document's -/
theorem cast3 {a b c : Nat} : (([a, b, c].sum : Nat) : Rat) = a + b + c := by
  simp only [List.sum_cons, List.sum_nil]
  push_cast
  grind
theorem cast2 {a b : Nat} : (([a, b].sum : Nat) : Rat) = a + b := by
  simp only [List.sum_cons, List.sum_nil]
  push_cast
  grind
theorem shares3_sum {ap be : Frac} (ha : U ap) (hb : U be) : (((shares3 ap be).sum : Nat) : Rat) = (val ap + val be - val ap * val be) * (ap.d * be.d) := by
  unfold shares3
  rw [cast3]
  push_cast
  rw [cast_sub ha.le, cast_sub hb.le, n_val ha.good, n_val hb.good]
  grind
theorem shares3_w {ap be S bl B : Frac} (ha : U ap) (hb : U be) : wsum ((shares3 ap be).zip [S, bl, B]) = (val ap * (1 - val be) * val S + val ap * val be * val bl + (1 - val ap) * val be * val B) * (ap.d * be.d) := by
  show ((ap.n * (be.d - be.n) : Nat) : Rat) * val S + (((ap.n * be.n : Nat) : Rat) * val bl + ((((ap.d - ap.n) * be.n : Nat) : Rat) * val B + 0)) = _
  push_cast
  rw [cast_sub ha.le, cast_sub hb.le, n_val ha.good, n_val hb.good]
  grind
theorem good3 {a b c : Frac} (ha : U a) (hb : U b) (hc : U c) : ∀ v ∈ [a, b, c], U v := fun v hv => by
  simp only [List.mem_cons, List.not_mem_nil, or_false] at hv
  rcases hv with rfl | rfl | rfl <;> assumption
theorem good2 {a b : Frac} (ha : U a) (hb : U b) : ∀ v ∈ [a, b], U v := fun v hv => by
  simp only [List.mem_cons, List.not_mem_nil, or_false] at hv
  rcases hv with rfl | rfl <;> assumption
theorem goods {vs : List Frac} (h : ∀ v ∈ vs, U v) : ∀ v ∈ vs, Good v := fun v hv => (h v hv).good
theorem between_good {m a b : Frac} (hm : Good m) (ha : Good a) (hb : Good b) : Good (between m a b) := add_good (mul_good (rest_good hm) ha) (mul_good hm hb)
theorem val_between {m a b : Frac} (hm : U m) (ha : Good a) (hb : Good b) : val (between m a b) = (1 - val m) * val a + val m * val b := by
  unfold between
  rw [val_add (mul_good (rest_good hm.good) ha) (mul_good hm.good hb), val_mul (rest_good hm.good) ha, val_mul hm.good hb, val_rest hm]
theorem scale_div {x t k : Rat} (hk : k ≠ 0) (ht : t ≠ 0) : x * k / (t * k) = x / t := by grind
theorem screen_bound {a e : Rat} (h1 : 0 ≤ a) (h2 : a ≤ 1) (h3 : 0 ≤ e) (h4 : e ≤ 1) : a * e ≤ a + e ∧ a + e - a * e ≤ 1 := by
  have m1 := Rat.mul_nonneg h1 (show 0 ≤ 1 - e by grind)
  have m2 := Rat.mul_nonneg (show 0 ≤ 1 - a by grind) (show 0 ≤ 1 - e by grind)
  constructor <;> grind
theorem dd_pos {a b : Frac} (ha : Good a) (hb : Good b) : (0 : Rat) < (a.d : Rat) * (b.d : Rat) := Rat.mul_pos (cast_pos ha.pos) (cast_pos hb.pos)
theorem sum_pos_of {n d : Nat} (hd : 0 < d) (h : ¬ (frac n d).n = 0) : 0 < n := by
  refine Nat.pos_of_ne_zero fun z => h ?_
  show n / Nat.gcd n d = 0
  rw [z, Nat.zero_div]
theorem over_alpha {w : Frac} {low up : Px} (hw : U w) (hl : UP low) (hu : UP up) : U (frac (shares3 (w.mul up.a) low.a).sum ((w.mul up.a).d * low.a.d)) ∧
    frac (shares3 (w.mul up.a) low.a).sum ((w.mul up.a).d * low.a.d) = ((w.mul up.a).add low.a).sub ((w.mul up.a).mul low.a) := by
  have ua := mul_U hw hu.a
  have ub := hl.a
  generalize w.mul up.a = a at ua ⊢
  generalize low.a = e at ub ⊢
  have hd := Nat.mul_pos ua.good.pos ub.good.pos
  have g := frac_good (n := (shares3 a e).sum) hd
  have bd := screen_bound ua.nn ua.le1 ub.nn ub.le1
  have v : val (frac (shares3 a e).sum (a.d * e.d)) = val a + val e - val a * val e := by
    rw [val_frac hd, shares3_sum ua ub]
    have := dd_pos ua.good ub.good
    push_cast
    grind
  refine ⟨U.of g (by rw [v]; exact bd.2), g.inj (sub_good (add_good ua.good ub.good) (mul_good ua.good ub.good)) ?_⟩
  rw [v, val_sub (add_good ua.good ub.good) (mul_good ua.good ub.good), val_add ua.good ub.good, val_mul ua.good ub.good]
  rw [val_mul ua.good ub.good, val_add ua.good ub.good]
  exact bd.1
theorem over_part {a e t S B : Frac} {m : Nat} (ha : U a) (he : U e) (hS : U S) (hB : U B) (ht : t = frac (shares3 a e).sum (a.d * e.d)) (h0 : ¬ t.n = 0) :
    U (mean (shares3 a e) [S, blendP m B S, B]) ∧ mean (shares3 a e) [S, blendP m B S, B] = ((a.mul (between e S (mixPart m B S))).add ((rest a).mul (e.mul B))).by_ t := by
  obtain ⟨ubl, ebl⟩ := blend_vals m hB hS
  rw [← ebl]
  generalize blendP m B S = bl at ubl
  have hd := Nat.mul_pos ha.good.pos he.good.pos
  have hs : 0 < (shares3 a e).sum := sum_pos_of hd (by rw [← ht]; exact h0)
  have us := good3 hS ubl hB
  have gm := mean_good hs (goods us)
  have gt : Good t := by rw [ht]; exact frac_good hd
  have gM := between_good he.good hS.good ubl.good
  have g1 := mul_good ha.good gM
  have g2 := mul_good (rest_good ha.good) (mul_good he.good hB.good)
  refine ⟨mean_U hs us, gm.inj (by_good (add_good g1 g2) gt) ?_⟩
  rw [val_mean hs (goods us), val_by (add_good g1 g2) gt, val_add g1 g2, val_mul ha.good gM, val_between he hS.good ubl.good, val_mul (rest_good ha.good) (mul_good he.good hB.good), val_mul he.good hB.good, val_rest ha]
  have vt : val t = val a + val e - val a * val e := by
    rw [ht, val_frac hd, shares3_sum ha he]
    have := dd_pos ha.good he.good
    push_cast
    grind
  have vt0 : val t ≠ 0 := fun z => h0 ((val_eq_zero gt).mp z)
  rw [shares3_w ha he, shares3_sum ha he, ← vt, scale_div (by have := dd_pos ha.good he.good; grind) vt0]
  grind
theorem over_vals (m : Nat) {w : Frac} {low up : Px} (hw : U w) (hl : UP low) (hu : UP up) : UP (overP m w low up) ∧ overP m w low up = over m w low up := by
  obtain ⟨ua, ea⟩ := over_alpha hw hl hu
  unfold overP over ofParts
  dsimp only
  rw [← ea]
  by_cases h : (frac (shares3 (w.mul up.a) low.a).sum ((w.mul up.a).d * low.a.d)).n = 0
  · rw [if_pos h, if_pos h]; exact ⟨nothing_UP, rfl⟩
  rw [if_neg h, if_neg h]
  have op := fun {S B : Frac} (hS : U S) (hB : U B) => over_part (m := m) (mul_U hw hu.a) hl.a hS hB rfl h
  refine ⟨⟨map2_UC hl.c hu.c fun B S hB hS => (op hS hB).1, ua⟩, ?_⟩
  congr 1
  unfold Px.parts mix Colour.map Colour.map2
  dsimp only
  rw [(op hu.c.r hl.c.r).2, (op hu.c.g hl.c.g).2, (op hu.c.b hl.c.b).2]
theorem shares2_pos {a : Frac} (h : U a) : 0 < (shares2 a).sum := by
  have e : (shares2 a).sum = (a.d - a.n) + (a.n + 0) := rfl
  have := h.good.pos
  have := h.le
  omega
theorem atop_vals (m : Nat) {w : Frac} {low up : Px} (hw : U w) (hl : UP low) (hu : UP up) : UP (atopP m w low up) ∧ atopP m w low up = atop m w low up := by
  unfold atopP atop
  by_cases h : low.a.n = 0
  · rw [if_pos h, if_pos h]; exact ⟨nothing_UP, rfl⟩
  rw [if_neg h, if_neg h]
  have ua := mul_U hw hu.a
  generalize w.mul up.a = a at ua ⊢
  have op : ∀ {B S : Frac}, U B → U S → U (mean (shares2 a) [B, blendP m B S]) ∧ mean (shares2 a) [B, blendP m B S] = between a B (mixPart m B S) := fun {B S} hB hS => by
    obtain ⟨ubl, ebl⟩ := blend_vals m hB hS
    rw [← ebl]
    generalize blendP m B S = bl at ubl
    have us := good2 hB ubl
    have hs := shares2_pos ua
    refine ⟨mean_U hs us, (mean_good hs (goods us)).inj (between_good ua.good hB.good ubl.good) ?_⟩
    rw [val_mean hs (goods us), val_between ua hB.good ubl.good]
    show (((a.d - a.n : Nat) : Rat) * val B + ((a.n : Rat) * val bl + 0)) / (([a.d - a.n, a.n].sum : Nat) : Rat) = _
    rw [cast2, cast_sub ua.le, n_val ua.good]
    have := cast_ne ua.good.pos
    grind
  refine ⟨⟨map2_UC hl.c hu.c fun B S hB hS => (op hB hS).1, hl.a⟩, ?_⟩
  congr 1
  unfold mix Colour.map2
  dsimp only
  rw [(op hl.c.r hu.c.r).2, (op hl.c.g hu.c.g).2, (op hl.c.b hu.c.b).2]
theorem sharesM_sum {o n : Frac} (ho : Good o) (hn : Good n) : (((sharesM o n).sum : Nat) : Rat) = (val o + val n) * (o.d * n.d) := by
  unfold sharesM
  rw [cast2]
  push_cast
  rw [n_val ho, n_val hn]
  grind
theorem mix_bound {m p q : Rat} (h1 : 0 ≤ m) (h2 : m ≤ 1) (h3 : p ≤ 1) (h4 : q ≤ 1) : (1 - m) * p + m * q ≤ 1 := by
  have m1 := Rat.mul_nonneg (show 0 ≤ 1 - m by grind) (show 0 ≤ 1 - p by grind)
  have m2 := Rat.mul_nonneg h1 (show 0 ≤ 1 - q by grind)
  grind
theorem mix_vals {w : Frac} {p q : Px} (hw : U w) (hp : UP p) (hq : UP q) : UP (mixP w p q) ∧ mixP w p q = part w p q := by
  have uo := mul_U (compl_U hw) hp.a
  have un := mul_U hw hq.a
  have vo : val ((compl w).mul p.a) = (1 - val w) * val p.a := by rw [val_mul (compl_U hw).good hp.a.good, val_compl hw]
  have vn : val (w.mul q.a) = val w * val q.a := val_mul hw.good hq.a.good
  unfold mixP part ofParts
  dsimp only
  generalize (compl w).mul p.a = o at uo vo ⊢
  generalize w.mul q.a = n at un vn ⊢
  have hd := Nat.mul_pos uo.good.pos un.good.pos
  have g := frac_good (n := (sharesM o n).sum) hd
  have v : val (frac (sharesM o n).sum (o.d * n.d)) = (1 - val w) * val p.a + val w * val q.a := by
    rw [val_frac hd, sharesM_sum uo.good un.good]
    have := dd_pos uo.good un.good
    push_cast
    grind
  have ea : frac (sharesM o n).sum (o.d * n.d) = between w p.a q.a := g.inj (between_good hw.good hp.a.good hq.a.good) (by rw [v, val_between hw hp.a.good hq.a.good])
  have ut : U (frac (sharesM o n).sum (o.d * n.d)) := U.of g (by rw [v]; exact mix_bound hw.nn hw.le1 hp.a.le1 hq.a.le1)
  rw [← ea]
  by_cases h : (frac (sharesM o n).sum (o.d * n.d)).n = 0
  · rw [if_pos h, if_pos h]; exact ⟨nothing_UP, rfl⟩
  rw [if_neg h, if_neg h]
  have hs : 0 < (sharesM o n).sum := sum_pos_of hd h
  have vt0 : val (frac (sharesM o n).sum (o.d * n.d)) ≠ 0 := fun z => h ((val_eq_zero g).mp z)
  have op : ∀ {x y : Frac}, U x → U y → U (mean (sharesM o n) [x, y]) ∧ mean (sharesM o n) [x, y] = (between w (p.a.mul x) (q.a.mul y)).by_ (frac (sharesM o n).sum (o.d * n.d)) := fun {x y} hx hy => by
    have us := good2 hx hy
    have gb := between_good hw.good (mul_good hp.a.good hx.good) (mul_good hq.a.good hy.good)
    refine ⟨mean_U hs us, (mean_good hs (goods us)).inj (by_good gb g) ?_⟩
    rw [val_mean hs (goods us), val_by gb g, val_between hw (mul_good hp.a.good hx.good) (mul_good hq.a.good hy.good), val_mul hp.a.good hx.good, val_mul hq.a.good hy.good]
    have e1 : wsum ((sharesM o n).zip [x, y]) = ((1 - val w) * val p.a * val x + val w * val q.a * val y) * (o.d * n.d) := by
      show ((o.n * n.d : Nat) : Rat) * val x + (((n.n * o.d : Nat) : Rat) * val y + 0) = _
      push_cast
      rw [n_val uo.good, n_val un.good, vo, vn]
      grind
    have e2 : (((sharesM o n).sum : Nat) : Rat) = val (frac (sharesM o n).sum (o.d * n.d)) * (o.d * n.d) := by
      rw [sharesM_sum uo.good un.good, v, vo, vn]
    rw [e1]
    rw [show ((((sharesM o n).sum : Nat) : Rat)) = val (frac (sharesM o n).sum (o.d * n.d)) * (o.d * n.d) from e2]
    rw [scale_div (by have := dd_pos uo.good un.good; grind) vt0]
    grind
  refine ⟨⟨map2_UC hp.c hq.c fun x y hx hy => (op hx hy).1, ut⟩, ?_⟩
  congr 1
  unfold Px.parts Colour.map Colour.map2
  dsimp only
  rw [(op hp.c.r hq.c.r).2, (op hp.c.g hq.c.g).2, (op hp.c.b hq.c.b).2]
theorem near_vals {x : Frac} (h : U x) : U (nearP x) ∧ nearP x = if x.le ⟨1, 2⟩ then x.mul ⟨1, 2⟩ else rest ((rest x).mul ⟨1, 2⟩) := by
  have comm : ∀ y : Frac, (⟨1, 2⟩ : Frac).mul y = y.mul ⟨1, 2⟩ := fun y => by
    unfold Frac.mul
    rw [Nat.mul_comm 1, Nat.mul_comm 2]
  have u1 := mul_U half_U h
  have u2 := mul_U half_U (compl_U h)
  unfold nearP
  by_cases c : 2 * x.n ≤ x.d
  · rw [if_pos c, if_pos (show x.le ⟨1, 2⟩ = true by rw [half_iff, decide_eq_true_iff]; exact c)]
    exact ⟨u1, comm x⟩
  · rw [if_neg c, if_neg (show ¬ x.le ⟨1, 2⟩ = true by rw [half_iff, decide_eq_true_iff]; exact c)]
    refine ⟨compl_U u2, ?_⟩
    rw [compl_rest u2, comm, compl_rest h]
theorem changed_vals (k : Nat) {c : Colour} (h : UC c) : UC (changedP k c) ∧ changedP k c = changed k c := by
  match k with
  | 0 => exact ⟨map_UC h fun x hx => compl_U hx, map_eq h fun x hx => compl_rest hx⟩
  | 1 =>
    have us := good3 h.r h.g h.b
    have hs : 0 < [3, 6, 1].sum := by decide
    have u := mean_U hs us
    have hd : 0 < 10 * (c.r.d * c.g.d * c.b.d) := Nat.mul_pos (by decide) (Nat.mul_pos (Nat.mul_pos h.r.good.pos h.g.good.pos) h.b.good.pos)
    have e : mean [3, 6, 1] [c.r, c.g, c.b] = frac (3 * (c.r.n * c.g.d * c.b.d) + 6 * (c.g.n * c.r.d * c.b.d) + c.b.n * c.r.d * c.g.d) (10 * (c.r.d * c.g.d * c.b.d)) := by
      refine (mean_good hs (goods us)).inj (frac_good hd) ?_
      rw [val_mean hs (goods us), val_frac hd]
      show (((3 : Nat) : Rat) * val c.r + (((6 : Nat) : Rat) * val c.g + (((1 : Nat) : Rat) * val c.b + 0))) / (([3, 6, 1].sum : Nat) : Rat) = _
      rw [cast3]
      unfold val
      have h1 := cast_ne h.r.good.pos
      have h2 := cast_ne h.g.good.pos
      have h3 := cast_ne h.b.good.pos
      push_cast
      grind
    refine ⟨⟨u, u, u⟩, ?_⟩
    show (⟨mean [3, 6, 1] [c.r, c.g, c.b], mean [3, 6, 1] [c.r, c.g, c.b], mean [3, 6, 1] [c.r, c.g, c.b]⟩ : Colour) = _
    rw [e]
    rfl
  | k + 2 => exact ⟨map_UC h fun x hx => (near_vals hx).1, map_eq h fun x hx => (near_vals hx).2⟩
theorem weight_vals {o m : Nat} (ho : o ≤ 255) (hm : m ≤ 255) : U (frac (o * m) (255 * 255)) ∧ frac (o * m) (255 * 255) = (ofByte o).mul (ofByte m) := by
  have e : frac (o * m) (255 * 255) = (ofByte o).mul (ofByte m) := by
    refine (frac_good (by decide)).inj (mul_good (ofByte_good _) (ofByte_good _)) ?_
    rw [val_frac (by decide), val_mul (ofByte_good _) (ofByte_good _)]
    unfold ofByte
    rw [val_frac (by decide), val_frac (by decide)]
    push_cast
    grind
  exact ⟨by rw [e]; exact mul_U (ofByte_U ho) (ofByte_U hm), e⟩
end LM

set_option Elab.async false
set_option linter.all false
namespace LM
open Ie02
/-! sizes -/
theorem frac_d_dvd (n d : Nat) : (frac n d).d ∣ d := Nat.div_dvd_of_dvd (Nat.gcd_dvd_right n d)
theorem mul_d_dvd (a b : Frac) : (a.mul b).d ∣ a.d * b.d := frac_d_dvd _ _
/-- what a mode multiplies the lower bottom by -/
def Xof (m : Nat) (s : Frac) : Nat := match m with
  | 0 | 1 | 2 | 3 | 4 | 5 | 6 | 7 | 8 | 9 => s.d
  | 10 => Nat.max 1 (compl s).n
  | _ => Nat.max 1 s.n
theorem Xof_pos (m : Nat) {s : Frac} (h : U s) : 0 < Xof m s ∧ Xof m s ≤ s.d := by
  have p := h.good.pos
  have l := h.le
  match m with
  | 0 | 1 | 2 | 3 | 4 | 5 | 6 | 7 | 8 | 9 => exact ⟨p, Nat.le_refl _⟩
  | 10 =>
    show 0 < Nat.max 1 (s.d - s.n) ∧ Nat.max 1 (s.d - s.n) ≤ s.d
    exact ⟨Nat.lt_of_lt_of_le Nat.one_pos (Nat.le_max_left _ _), Nat.max_le.mpr ⟨p, Nat.sub_le _ _⟩⟩
  | k + 11 =>
    show 0 < Nat.max 1 s.n ∧ Nat.max 1 s.n ≤ s.d
    exact ⟨Nat.lt_of_lt_of_le Nat.one_pos (Nat.le_max_left _ _), Nat.max_le.mpr ⟨p, l⟩⟩
theorem hardP_d (b s : Frac) : (hardP b s).d ∣ s.d * b.d := by
  unfold hardP
  split
  · have h := mul_d_dvd two (s.mul b)
    rw [show two.d = 1 from rfl, Nat.one_mul] at h
    exact Nat.dvd_trans h (mul_d_dvd s b)
  · show (two.mul ((compl s).mul (compl b))).d ∣ _
    have h := mul_d_dvd two ((compl s).mul (compl b))
    rw [show two.d = 1 from rfl, Nat.one_mul] at h
    exact Nat.dvd_trans h (mul_d_dvd (compl s) (compl b))
theorem max_one_dvd {a b : Nat} (h : 0 < b) : a * b ∣ a * Nat.max 1 b := by
  rw [show Nat.max 1 b = b from Nat.max_eq_right h]
  exact Nat.dvd_refl _
theorem blend_den (m : Nat) {b s : Frac} (hb : U b) (hs : U s) : (blendP m b s).d ∣ b.d * Xof m s := by
  match m with
  | 0 => exact Nat.dvd_mul_left _ _
  | 1 => exact mul_d_dvd b s
  | 2 => exact mul_d_dvd (compl b) (compl s)
  | 3 => exact hardP_d s b
  | 4 => show (hardP b s).d ∣ b.d * s.d; rw [Nat.mul_comm]; exact hardP_d b s
  | 5 =>
    show (b.min s).d ∣ b.d * s.d
    unfold Frac.min
    split
    · exact Nat.dvd_mul_right _ _
    · exact Nat.dvd_mul_left _ _
  | 6 =>
    show (b.max s).d ∣ b.d * s.d
    unfold Frac.max
    split
    · exact Nat.dvd_mul_left _ _
    · exact Nat.dvd_mul_right _ _
  | 7 =>
    show ((b.max s).sub (b.min s)).d ∣ b.d * s.d
    unfold Frac.max Frac.min
    split
    · rw [Nat.mul_comm]; exact frac_d_dvd _ _
    · exact frac_d_dvd _ _
  | 8 =>
    show ((b.add s).min one).d ∣ b.d * s.d
    unfold Frac.min
    split
    · exact frac_d_dvd _ _
    · exact Nat.one_dvd _
  | 9 =>
    show (subP b s).d ∣ b.d * s.d
    unfold subP
    split
    · exact Nat.one_dvd _
    · exact frac_d_dvd _ _
  | 10 =>
    show (dodgeP b s).d ∣ b.d * Nat.max 1 (compl s).n
    unfold dodgeP
    split
    · exact Nat.one_dvd _
    · split
      · exact Nat.one_dvd _
      · rename_i h0 h1
        have l := ndec (compl_good hs) hb.good h1
        have cn : 0 < (compl s).n := by
          refine Nat.pos_of_ne_zero fun z => ?_
          rw [(val_eq_zero (compl_good hs)).mpr z] at l
          have := hb.nn
          exact h0 ((val_eq_zero hb.good).mp (by grind))
        exact Nat.dvd_trans (frac_d_dvd _ _) (max_one_dvd cn)
  | k + 11 =>
    show (burnP b s).d ∣ b.d * Nat.max 1 s.n
    unfold burnP
    split
    · exact Nat.one_dvd _
    · split
      · exact Nat.one_dvd _
      · rename_i h0 h1
        have l := ndec hs.good (compl_good hb) h1
        have sn : 0 < s.n := by
          refine Nat.pos_of_ne_zero fun z => ?_
          rw [(val_eq_zero hs.good).mpr z, val_compl hb] at l
          have := hb.le1
          exact h0 ((nd_one hb.good).mpr ((val_one_iff hb.good).mp (by grind)))
        exact Nat.dvd_trans (frac_d_dvd _ _) (max_one_dvd sn)
theorem mean_den (ws : List Nat) {vs : List Frac} (g : ∀ v ∈ vs, Good v) {m : Nat} (h : ∀ v ∈ vs, v.d ∣ m) : (mean ws vs).d ∣ ws.sum * m :=
  Nat.dvd_trans (frac_d_dvd _ _) (Nat.mul_dvd_mul_left _ (lcmAll_least Nat.one_pos g (Nat.one_dvd _) h))
theorem mul_le_pow {a b i j : Nat} (h1 : a ≤ 2 ^ i) (h2 : b ≤ 2 ^ j) : a * b ≤ 2 ^ (i + j) := by
  rw [Nat.pow_add]
  exact Nat.mul_le_mul h1 h2
/-- bits: of each channel, of a common bottom, of the alpha -/
structure Sz (p : Px) (c L a : Nat) : Prop where
  r : p.c.r.d ≤ 2 ^ c
  g : p.c.g.d ≤ 2 ^ c
  b : p.c.b.d ≤ 2 ^ c
  com : ∃ k, 0 < k ∧ k ≤ 2 ^ L ∧ p.c.r.d ∣ k ∧ p.c.g.d ∣ k ∧ p.c.b.d ∣ k
  al : p.a.d ≤ 2 ^ a
theorem Sz.mono {p : Px} {c L a c' L' a' : Nat} (h : Sz p c L a) (h1 : c ≤ c') (h2 : L ≤ L') (h3 : a ≤ a') : Sz p c' L' a' := by
  have pw : ∀ {x y : Nat}, x ≤ y → 2 ^ x ≤ 2 ^ y := fun h => Nat.pow_le_pow_right (by decide) h
  obtain ⟨k, k1, k2, k3⟩ := h.com
  exact ⟨Nat.le_trans h.r (pw h1), Nat.le_trans h.g (pw h1), Nat.le_trans h.b (pw h1), ⟨k, k1, Nat.le_trans k2 (pw h2), k3⟩, Nat.le_trans h.al (pw h3)⟩
theorem nothing_Sz (c L a : Nat) : Sz nothing c L a := by
  have z : ∀ x : Nat, 1 ≤ 2 ^ x := fun x => Nat.one_le_two_pow
  exact ⟨z c, z c, z c, ⟨1, Nat.one_pos, z L, Nat.dvd_refl _, Nat.dvd_refl _, Nat.dvd_refl _⟩, z a⟩
/-- channels made one by one: each bottom divides t * (common of the parts) -/
theorem Sz.of_parts {p : Px} {c L a : Nat} {t kr kg kb k : Nat} (hr : p.c.r.d ∣ t * kr) (hg : p.c.g.d ∣ t * kg) (hb : p.c.b.d ∣ t * kb) (lr : t * kr ≤ 2 ^ c) (lg : t * kg ≤ 2 ^ c) (lb : t * kb ≤ 2 ^ c)
    (pr : 0 < t * kr) (pg : 0 < t * kg) (pb : 0 < t * kb) (dr : kr ∣ k) (dg : kg ∣ k) (db : kb ∣ k) (pk : 0 < t * k) (lk : t * k ≤ 2 ^ L) (ha : p.a.d ≤ 2 ^ a) : Sz p c L a :=
  ⟨Nat.le_trans (Nat.le_of_dvd pr hr) lr, Nat.le_trans (Nat.le_of_dvd pg hg) lg, Nat.le_trans (Nat.le_of_dvd pb hb) lb,
    ⟨t * k, pk, lk, Nat.dvd_trans hr (Nat.mul_dvd_mul_left _ dr), Nat.dvd_trans hg (Nat.mul_dvd_mul_left _ dg), Nat.dvd_trans hb (Nat.mul_dvd_mul_left _ db)⟩, ha⟩
theorem shares3_le {ap be : Frac} (ha : U ap) (hb : U be) : (shares3 ap be).sum ≤ ap.d * be.d := by
  have h1 := ha.le
  have h2 := hb.le
  unfold shares3
  simp only [List.sum_cons, List.sum_nil]
  obtain ⟨x, hx⟩ := Nat.exists_eq_add_of_le h1
  obtain ⟨y, hy⟩ := Nat.exists_eq_add_of_le h2
  rw [hx, hy, Nat.add_sub_cancel_left, Nat.add_sub_cancel_left]
  have : (ap.n + x) * (be.n + y) = ap.n * y + (ap.n * be.n + (x * be.n + 0)) + x * y := by
    rw [Nat.add_mul, Nat.mul_add, Nat.mul_add]
    omega
  omega
theorem shares2_eq {ap : Frac} (ha : U ap) : (shares2 ap).sum = ap.d := by
  have h1 := ha.le
  unfold shares2
  simp only [List.sum_cons, List.sum_nil]
  omega
theorem sharesM_le {o n : Frac} (ho : U o) (hn : U n) (h : val o + val n ≤ 1) : (sharesM o n).sum ≤ o.d * n.d := by
  have e := sharesM_sum ho.good hn.good
  have p := dd_pos ho.good hn.good
  have l := Rat.mul_le_mul_of_nonneg_right h (show (0 : Rat) ≤ (o.d : Rat) * (n.d : Rat) by grind)
  rw [← e, Rat.one_mul] at l
  exact_mod_cast l
/-- the upper pixel's bottoms over the lower one's: which common multiples there are -/
structure Com (m : Nat) (low up : Colour) (c2 : Nat) (kr kg kb k : Nat) : Prop where
  r : up.r.d ∣ kr ∧ low.r.d * Xof m up.r ∣ kr
  g : up.g.d ∣ kg ∧ low.g.d * Xof m up.g ∣ kg
  b : up.b.d ∣ kb ∧ low.b.d * Xof m up.b ∣ kb
  pr : 0 < kr
  pg : 0 < kg
  pb : 0 < kb
  lr : kr ≤ 2 ^ c2
  lg : kg ≤ 2 ^ c2
  lb : kb ≤ 2 ^ c2
  dr : kr ∣ k
  dg : kg ∣ k
  db : kb ∣ k
  pk : 0 < k
theorem dvd_low {b x k : Nat} (h : b * x ∣ k) : b ∣ k := Nat.dvd_trans (Nat.dvd_mul_right _ _) h
theorem over_Sz (m : Nat) {w : Frac} {low up : Px} {a1 a2 c2 L2 kr kg kb k : Nat} (hw : U w) (w16 : w.d ≤ 2 ^ 16) (hl : UP low) (hu : UP up) (al : low.a.d ≤ 2 ^ a1) (au : up.a.d ≤ 2 ^ a2) (C : Com m low.c up.c c2 kr kg kb k) (lk : k ≤ 2 ^ L2) :
    Sz (overP m w low up) (16 + a2 + a1 + c2) (16 + a2 + a1 + L2) (16 + a2 + a1) := by
  have ua := mul_U hw hu.a
  have dle : (w.mul up.a).d ≤ 2 ^ (16 + a2) := Nat.le_trans (Nat.le_of_dvd (Nat.mul_pos hw.good.pos hu.a.good.pos) (mul_d_dvd w up.a)) (mul_le_pow w16 au)
  have ale : (w.mul up.a).d * low.a.d ≤ 2 ^ (16 + a2 + a1) := mul_le_pow dle al
  have hd := Nat.mul_pos ua.good.pos hl.a.good.pos
  unfold overP
  dsimp only
  split
  · exact nothing_Sz _ _ _
  · rename_i h
    have hs := sum_pos_of hd h
    have sle : (shares3 (w.mul up.a) low.a).sum ≤ 2 ^ (16 + a2 + a1) := Nat.le_trans (shares3_le ua hl.a) ale
    have one : ∀ {B S : Frac} {kk : Nat}, U B → U S → S.d ∣ kk → B.d * Xof m S ∣ kk → (mean (shares3 (w.mul up.a) low.a) [S, blendP m B S, B]).d ∣ (shares3 (w.mul up.a) low.a).sum * kk := fun {B S kk} hB hS h1 h2 => by
      refine mean_den _ (goods (good3 hS (blend_vals m hB hS).1 hB)) fun v hv => ?_
      simp only [List.mem_cons, List.not_mem_nil, or_false] at hv
      rcases hv with rfl | rfl | rfl
      · exact h1
      · exact Nat.dvd_trans (blend_den m hB hS) h2
      · exact dvd_low h2
    exact Sz.of_parts (one hl.c.r hu.c.r C.r.1 C.r.2) (one hl.c.g hu.c.g C.g.1 C.g.2) (one hl.c.b hu.c.b C.b.1 C.b.2) (mul_le_pow sle C.lr) (mul_le_pow sle C.lg) (mul_le_pow sle C.lb)
      (Nat.mul_pos hs C.pr) (Nat.mul_pos hs C.pg) (Nat.mul_pos hs C.pb) C.dr C.dg C.db (Nat.mul_pos hs C.pk) (mul_le_pow sle lk) (Nat.le_trans (Nat.le_of_dvd hd (frac_d_dvd _ _)) ale)
theorem atop_Sz (m : Nat) {w : Frac} {low up : Px} {a1 a2 c2 L2 kr kg kb k : Nat} (hw : U w) (w16 : w.d ≤ 2 ^ 16) (hl : UP low) (hu : UP up) (al : low.a.d ≤ 2 ^ a1) (au : up.a.d ≤ 2 ^ a2) (C : Com m low.c up.c c2 kr kg kb k) (lk : k ≤ 2 ^ L2) :
    Sz (atopP m w low up) (16 + a2 + c2) (16 + a2 + L2) a1 := by
  have ua := mul_U hw hu.a
  have dle : (w.mul up.a).d ≤ 2 ^ (16 + a2) := Nat.le_trans (Nat.le_of_dvd (Nat.mul_pos hw.good.pos hu.a.good.pos) (mul_d_dvd w up.a)) (mul_le_pow w16 au)
  unfold atopP
  split
  · exact nothing_Sz _ _ _
  · have hs := shares2_pos ua
    have sle : (shares2 (w.mul up.a)).sum ≤ 2 ^ (16 + a2) := by rw [shares2_eq ua]; exact dle
    have one : ∀ {B S : Frac} {kk : Nat}, U B → U S → S.d ∣ kk → B.d * Xof m S ∣ kk → (mean (shares2 (w.mul up.a)) [B, blendP m B S]).d ∣ (shares2 (w.mul up.a)).sum * kk := fun {B S kk} hB hS h1 h2 => by
      refine mean_den _ (goods (good2 hB (blend_vals m hB hS).1)) fun v hv => ?_
      simp only [List.mem_cons, List.not_mem_nil, or_false] at hv
      rcases hv with rfl | rfl
      · exact dvd_low h2
      · exact Nat.dvd_trans (blend_den m hB hS) h2
    exact Sz.of_parts (one hl.c.r hu.c.r C.r.1 C.r.2) (one hl.c.g hu.c.g C.g.1 C.g.2) (one hl.c.b hu.c.b C.b.1 C.b.2) (mul_le_pow sle C.lr) (mul_le_pow sle C.lg) (mul_le_pow sle C.lb)
      (Nat.mul_pos hs C.pr) (Nat.mul_pos hs C.pg) (Nat.mul_pos hs C.pb) C.dr C.dg C.db (Nat.mul_pos hs C.pk) (mul_le_pow sle lk) al
/-- any two pixels -/
theorem Com.any (m : Nat) {low up : Px} {c1 L1 a1 c2 L2 a2 : Nat} (hl : UP low) (hu : UP up) (sl : Sz low c1 L1 a1) (su : Sz up c2 L2 a2) :
    ∃ kr kg kb k, Com m low.c up.c (c1 + 2 * c2) kr kg kb k ∧ k ≤ 2 ^ (L1 + L2 + 3 * c2) := by
  obtain ⟨k1, p1, l1, d1r, d1g, d1b⟩ := sl.com
  obtain ⟨k2, p2, l2, d2r, d2g, d2b⟩ := su.com
  have xr := Xof_pos m hu.c.r
  have xg := Xof_pos m hu.c.g
  have xb := Xof_pos m hu.c.b
  have one : ∀ {B S : Frac} {c : Nat}, B.d * Xof m S ∣ B.d * Xof m S * S.d := fun {B S c} => Nat.dvd_mul_right _ _
  have le : ∀ {B S : Frac}, U S → B.d ≤ 2 ^ c1 → S.d ≤ 2 ^ c2 → B.d * Xof m S * S.d ≤ 2 ^ (c1 + 2 * c2) := fun {B S} hS h1 h2 => by
    have := mul_le_pow (mul_le_pow h1 (Nat.le_trans (Xof_pos m hS).2 h2)) h2
    rw [show c1 + 2 * c2 = c1 + c2 + c2 by omega]
    exact this
  refine ⟨low.c.r.d * Xof m up.c.r * up.c.r.d, low.c.g.d * Xof m up.c.g * up.c.g.d, low.c.b.d * Xof m up.c.b * up.c.b.d, k1 * (Xof m up.c.r * Xof m up.c.g * Xof m up.c.b) * k2,
    ⟨⟨Nat.dvd_mul_left _ _, Nat.dvd_mul_right _ _⟩, ⟨Nat.dvd_mul_left _ _, Nat.dvd_mul_right _ _⟩, ⟨Nat.dvd_mul_left _ _, Nat.dvd_mul_right _ _⟩,
      Nat.mul_pos (Nat.mul_pos hl.c.r.good.pos xr.1) hu.c.r.good.pos, Nat.mul_pos (Nat.mul_pos hl.c.g.good.pos xg.1) hu.c.g.good.pos, Nat.mul_pos (Nat.mul_pos hl.c.b.good.pos xb.1) hu.c.b.good.pos,
      le hu.c.r sl.r su.r, le hu.c.g sl.g su.g, le hu.c.b sl.b su.b, ?_, ?_, ?_, Nat.mul_pos (Nat.mul_pos p1 (Nat.mul_pos (Nat.mul_pos xr.1 xg.1) xb.1)) p2⟩, ?_⟩
  · exact Nat.mul_dvd_mul (Nat.mul_dvd_mul d1r (by rw [Nat.mul_assoc]; exact Nat.dvd_mul_right _ _)) d2r
  · exact Nat.mul_dvd_mul (Nat.mul_dvd_mul d1g (by rw [Nat.mul_comm (Xof m up.c.r), Nat.mul_assoc]; exact Nat.dvd_mul_right _ _)) d2g
  · exact Nat.mul_dvd_mul (Nat.mul_dvd_mul d1b (Nat.dvd_mul_left _ _)) d2b
  · have h1 := mul_le_pow (mul_le_pow l1 (mul_le_pow (mul_le_pow (Nat.le_trans xr.2 su.r) (Nat.le_trans xg.2 su.g)) (Nat.le_trans xb.2 su.b))) l2
    rw [show L1 + L2 + 3 * c2 = L1 + (c2 + c2 + c2) + L2 by omega]
    exact h1
/-- an adjusted pixel whose bottoms divide e times the lower one's -/
theorem Com.adj2 (m : Nat) {low : Px} {up : Colour} {c1 L1 a1 : Nat} (hl : UP low) (hu : UC up) (sl : Sz low c1 L1 a1) (hr : up.r.d ∣ 2 * low.c.r.d) (hg : up.g.d ∣ 2 * low.c.g.d) (hb : up.b.d ∣ 2 * low.c.b.d) :
    ∃ kr kg kb k, Com m low.c up (2 * c1 + 2) kr kg kb k ∧ k ≤ 2 ^ (L1 + 3 * c1 + 4) := by
  obtain ⟨k1, p1, l1, d1r, d1g, d1b⟩ := sl.com
  have xr := Xof_pos m hu.r
  have xg := Xof_pos m hu.g
  have xb := Xof_pos m hu.b
  have two : ∀ {c x : Nat}, x ≤ 2 ^ c → 2 * x ≤ 2 ^ (1 + c) := fun {c x} h => mul_le_pow (i := 1) (by decide) h
  have ud : ∀ {S B : Frac}, U B → S.d ∣ 2 * B.d → B.d ≤ 2 ^ c1 → S.d ≤ 2 ^ (1 + c1) := fun {S B} hB h l => Nat.le_trans (Nat.le_of_dvd (Nat.mul_pos (by decide) hB.good.pos) h) (two l)
  have lr := Nat.le_trans xr.2 (ud hl.c.r hr sl.r)
  have lg := Nat.le_trans xg.2 (ud hl.c.g hg sl.g)
  have lb := Nat.le_trans xb.2 (ud hl.c.b hb sl.b)
  have le : ∀ {B x : Nat}, B ≤ 2 ^ c1 → x ≤ 2 ^ (1 + c1) → 2 * B * x ≤ 2 ^ (2 * c1 + 2) := fun {B x} h1 h2 => by
    have := mul_le_pow (two h1) h2
    rw [show 2 * c1 + 2 = 1 + c1 + (1 + c1) by omega]
    exact this
  refine ⟨2 * low.c.r.d * Xof m up.r, 2 * low.c.g.d * Xof m up.g, 2 * low.c.b.d * Xof m up.b, 2 * k1 * (Xof m up.r * Xof m up.g * Xof m up.b),
    ⟨⟨Nat.dvd_trans hr (Nat.dvd_mul_right _ _), by rw [Nat.mul_assoc]; exact Nat.dvd_mul_left _ _⟩, ⟨Nat.dvd_trans hg (Nat.dvd_mul_right _ _), by rw [Nat.mul_assoc]; exact Nat.dvd_mul_left _ _⟩, ⟨Nat.dvd_trans hb (Nat.dvd_mul_right _ _), by rw [Nat.mul_assoc]; exact Nat.dvd_mul_left _ _⟩,
      Nat.mul_pos (Nat.mul_pos (by decide) hl.c.r.good.pos) xr.1, Nat.mul_pos (Nat.mul_pos (by decide) hl.c.g.good.pos) xg.1, Nat.mul_pos (Nat.mul_pos (by decide) hl.c.b.good.pos) xb.1,
      le sl.r lr, le sl.g lg, le sl.b lb, ?_, ?_, ?_, Nat.mul_pos (Nat.mul_pos (by decide) p1) (Nat.mul_pos (Nat.mul_pos xr.1 xg.1) xb.1)⟩, ?_⟩
  · exact Nat.mul_dvd_mul (Nat.mul_dvd_mul_left _ d1r) (by rw [Nat.mul_assoc]; exact Nat.dvd_mul_right _ _)
  · exact Nat.mul_dvd_mul (Nat.mul_dvd_mul_left _ d1g) (by rw [Nat.mul_comm (Xof m up.r), Nat.mul_assoc]; exact Nat.dvd_mul_right _ _)
  · exact Nat.mul_dvd_mul (Nat.mul_dvd_mul_left _ d1b) (Nat.dvd_mul_left _ _)
  · have h1 := mul_le_pow (two l1) (mul_le_pow (mul_le_pow lr lg) lb)
    rw [show L1 + 3 * c1 + 4 = 1 + L1 + (1 + c1 + (1 + c1) + (1 + c1)) by omega]
    exact h1
/-- a grey one: one bottom for all channels, that divides 10 times the common one -/
theorem Com.grey (m : Nat) {low : Px} {g : Frac} {c1 L1 a1 : Nat} (hl : UP low) (hu : U g) (sl : Sz low c1 L1 a1) (hg : ∀ k, low.c.r.d ∣ k → low.c.g.d ∣ k → low.c.b.d ∣ k → g.d ∣ 10 * k) :
    ∃ k, Com m low.c ⟨g, g, g⟩ (2 * L1 + 8) k k k k ∧ k ≤ 2 ^ (2 * L1 + 8) := by
  obtain ⟨k1, p1, l1, d1r, d1g, d1b⟩ := sl.com
  have x := Xof_pos m hu
  have gd := hg k1 d1r d1g d1b
  have ten : 10 * k1 ≤ 2 ^ (4 + L1) := mul_le_pow (i := 4) (by decide) l1
  have gl : g.d ≤ 2 ^ (4 + L1) := Nat.le_trans (Nat.le_of_dvd (Nat.mul_pos (by decide) p1) gd) ten
  have le : 10 * k1 * Xof m g ≤ 2 ^ (2 * L1 + 8) := by
    have := mul_le_pow ten (Nat.le_trans x.2 gl)
    rw [show 2 * L1 + 8 = 4 + L1 + (4 + L1) by omega]
    exact this
  have pk : 0 < 10 * k1 * Xof m g := Nat.mul_pos (Nat.mul_pos (by decide) p1) x.1
  have a : g.d ∣ 10 * k1 * Xof m g := Nat.dvd_trans gd (Nat.dvd_mul_right _ _)
  have b : ∀ {B : Nat}, B ∣ k1 → B * Xof m g ∣ 10 * k1 * Xof m g := fun h => Nat.mul_dvd_mul (Nat.dvd_trans h (Nat.dvd_mul_left _ _)) (Nat.dvd_refl _)
  exact ⟨10 * k1 * Xof m g, ⟨⟨a, b d1r⟩, ⟨a, b d1g⟩, ⟨a, b d1b⟩, pk, pk, pk, le, le, le, Nat.dvd_refl _, Nat.dvd_refl _, Nat.dvd_refl _, pk⟩, le⟩
theorem near_den {x : Frac} : (nearP x).d ∣ 2 * x.d := by
  unfold nearP
  split
  · exact mul_d_dvd _ _
  · show ((⟨1, 2⟩ : Frac).mul (compl x)).d ∣ 2 * x.d
    exact mul_d_dvd _ _
theorem grey_den {c : Colour} (h : UC c) {k : Nat} (hr : c.r.d ∣ k) (hg : c.g.d ∣ k) (hb : c.b.d ∣ k) : (mean [3, 6, 1] [c.r, c.g, c.b]).d ∣ 10 * k := by
  refine mean_den [3, 6, 1] (goods (good3 h.r h.g h.b)) fun v hv => ?_
  simp only [List.mem_cons, List.not_mem_nil, or_false] at hv
  rcases hv with rfl | rfl | rfl <;> assumption
theorem atopA_Sz (m how : Nat) {w : Frac} {low : Px} {c L a : Nat} (hw : U w) (w16 : w.d ≤ 2 ^ 16) (hl : UP low) (sl : Sz low c L a) :
    ∃ c' L', Sz (atopP m w low ⟨changedP how low.c, one⟩) c' L' a ∧ ((c' = 2 * c + 18 ∧ L' = L + 3 * c + 20) ∨ (c' = 2 * L + 24 ∧ L' = 2 * L + 24)) := by
  have hu := (changed_vals how hl.c).1
  have up : UP ⟨changedP how low.c, one⟩ := ⟨hu, one_U⟩
  match how with
  | 0 =>
    obtain ⟨kr, kg, kb, k, C, lk⟩ := Com.adj2 m (up := changedP 0 low.c) hl hu sl (Nat.dvd_mul_left _ _) (Nat.dvd_mul_left _ _) (Nat.dvd_mul_left _ _)
    exact ⟨_, _, atop_Sz m hw w16 hl up sl.al (a2 := 0) (Nat.le_refl 1) C lk, .inl ⟨by omega, by omega⟩⟩
  | 1 =>
    obtain ⟨k, C, lk⟩ := Com.grey m (g := mean [3, 6, 1] [low.c.r, low.c.g, low.c.b]) hl hu.r sl fun k h1 h2 h3 => grey_den hl.c h1 h2 h3
    exact ⟨_, _, atop_Sz m hw w16 hl up sl.al (a2 := 0) (Nat.le_refl 1) C lk, .inr ⟨by omega, by omega⟩⟩
  | j + 2 =>
    obtain ⟨kr, kg, kb, k, C, lk⟩ := Com.adj2 m (up := changedP (j + 2) low.c) hl hu sl near_den near_den near_den
    exact ⟨_, _, atop_Sz m hw w16 hl up sl.al (a2 := 0) (Nat.le_refl 1) C lk, .inl ⟨by omega, by omega⟩⟩
theorem mix_Sz {w : Frac} {p q : Px} {c1 L1 a1 c2 L2 a2 : Nat} (hw : U w) (w16 : w.d ≤ 2 ^ 16) (hp : UP p) (hq : UP q) (sp : Sz p c1 L1 a1) (sq : Sz q c2 L2 a2) :
    Sz (mixP w p q) (32 + a1 + a2 + (c1 + c2)) (32 + a1 + a2 + (L1 + L2)) (32 + a1 + a2) := by
  have uo := mul_U (compl_U hw) hp.a
  have un := mul_U hw hq.a
  have vo : val ((compl w).mul p.a) = (1 - val w) * val p.a := by rw [val_mul (compl_U hw).good hp.a.good, val_compl hw]
  have vn : val (w.mul q.a) = val w * val q.a := val_mul hw.good hq.a.good
  have ho : ((compl w).mul p.a).d ≤ 2 ^ (16 + a1) := Nat.le_trans (Nat.le_of_dvd (Nat.mul_pos hw.good.pos hp.a.good.pos) (mul_d_dvd (compl w) p.a)) (mul_le_pow w16 sp.al)
  have hn : (w.mul q.a).d ≤ 2 ^ (16 + a2) := Nat.le_trans (Nat.le_of_dvd (Nat.mul_pos hw.good.pos hq.a.good.pos) (mul_d_dvd w q.a)) (mul_le_pow w16 sq.al)
  have sm := sharesM_le uo un (by rw [vo, vn]; exact mix_bound hw.nn hw.le1 hp.a.le1 hq.a.le1)
  have ale : ((compl w).mul p.a).d * (w.mul q.a).d ≤ 2 ^ (32 + a1 + a2) := by
    have := mul_le_pow ho hn
    rw [show 32 + a1 + a2 = 16 + a1 + (16 + a2) by omega]
    exact this
  have hd := Nat.mul_pos uo.good.pos un.good.pos
  unfold mixP
  dsimp only
  split
  · exact nothing_Sz _ _ _
  · rename_i h
    have hs := sum_pos_of hd h
    have sle := Nat.le_trans sm ale
    obtain ⟨k1, p1, l1, d1r, d1g, d1b⟩ := sp.com
    obtain ⟨k2, p2, l2, d2r, d2g, d2b⟩ := sq.com
    have one : ∀ {x y : Frac}, U x → U y → (mean (sharesM ((compl w).mul p.a) (w.mul q.a)) [x, y]).d ∣ (sharesM ((compl w).mul p.a) (w.mul q.a)).sum * (x.d * y.d) := fun {x y} hx hy => by
      refine mean_den _ (goods (good2 hx hy)) fun v hv => ?_
      simp only [List.mem_cons, List.not_mem_nil, or_false] at hv
      rcases hv with rfl | rfl
      · exact Nat.dvd_mul_right _ _
      · exact Nat.dvd_mul_left _ _
    exact Sz.of_parts (k := k1 * k2) (one hp.c.r hq.c.r) (one hp.c.g hq.c.g) (one hp.c.b hq.c.b) (mul_le_pow sle (mul_le_pow sp.r sq.r)) (mul_le_pow sle (mul_le_pow sp.g sq.g)) (mul_le_pow sle (mul_le_pow sp.b sq.b))
      (Nat.mul_pos hs (Nat.mul_pos hp.c.r.good.pos hq.c.r.good.pos)) (Nat.mul_pos hs (Nat.mul_pos hp.c.g.good.pos hq.c.g.good.pos)) (Nat.mul_pos hs (Nat.mul_pos hp.c.b.good.pos hq.c.b.good.pos))
      (Nat.mul_dvd_mul d1r d2r) (Nat.mul_dvd_mul d1g d2g) (Nat.mul_dvd_mul d1b d2b) (Nat.mul_pos hs (Nat.mul_pos p1 p2)) (mul_le_pow sle (mul_le_pow l1 l2)) (Nat.le_trans (Nat.le_of_dvd hd (frac_d_dvd _ _)) ale)
end LM

set_option Elab.async false
set_option linter.all false
namespace LM
open Ie02
/-! the potential: bits of a channel, of the common bottom, four times those of the alpha -/
structure Pt (p : Px) (F : Nat) : Prop where
  up : UP p
  sz : ∃ c L a, Sz p c L a ∧ c ≤ L ∧ L ≤ 3 * c ∧ c + L + 4 * a ≤ F
/-- a backdrop -/
def Pot (p : Px) (N : Nat) : Prop := ∃ F, Pt p F ∧ F + 120 ≤ N
/-- an own pixel, with what is clipped to it -/
def PotP (p : Px) (M : Nat) : Prop := ∃ F, Pt p F ∧ F + 72 ≤ M
/-- an own pixel alone -/
def PotO (p : Px) (y : Nat) : Prop := (UP p ∧ Sz p 8 8 8) ∨ Pot p (120 * y)
theorem Pot.mono {p : Px} {N M : Nat} (h : Pot p N) (l : N ≤ M) : Pot p M := let ⟨F, a, b⟩ := h; ⟨F, a, Nat.le_trans b l⟩
theorem PotP.mono {p : Px} {N M : Nat} (h : PotP p N) (l : N ≤ M) : PotP p M := let ⟨F, a, b⟩ := h; ⟨F, a, Nat.le_trans b l⟩
theorem pot_nothing {N : Nat} (h : 120 ≤ N) : Pot nothing N := ⟨0, ⟨nothing_UP, 0, 0, 0, nothing_Sz _ _ _, by omega, by omega, by omega⟩, by omega⟩
theorem PotO.potP {p : Px} {y : Nat} (h : PotO p y) (hy : 1 ≤ y) : PotP p (120 * y) := by
  rcases h with ⟨u, s⟩ | ⟨F, h, l⟩
  · exact ⟨48, ⟨u, 8, 8, 8, s, by omega, by omega, by omega⟩, by omega⟩
  · exact ⟨F, h, by omega⟩
theorem pot_over (m : Nat) {w : Frac} {q p : Px} {N y : Nat} (hw : U w) (w16 : w.d ≤ 2 ^ 16) (hq : Pot q N) (hp : PotP p (120 * y)) (hy : 1 ≤ y) : Pot (overP m w q p) (N * (3 * y)) := by
  obtain ⟨F, ⟨uq, c1, L1, a1, s1, i1, j1, f1⟩, hF⟩ := hq
  obtain ⟨F2, ⟨up, c2, L2, a2, s2, i2, j2, f2⟩, hF2⟩ := hp
  obtain ⟨kr, kg, kb, k, C, lk⟩ := Com.any m uq up s1 s2
  have S := over_Sz m hw w16 uq up s1.al s2.al C lk
  refine ⟨_, ⟨(over_vals m hw uq up).1, _, _, _, S, by omega, by omega, Nat.le_refl _⟩, ?_⟩
  obtain ⟨n, rfl⟩ := Nat.exists_eq_add_of_le (show 120 ≤ N by omega)
  have h1 : (120 + n) * (3 * y) = 360 * y + 3 * (n * y) := by rw [Nat.add_mul, show n * (3 * y) = 3 * (n * y) by rw [Nat.mul_left_comm]]; omega
  have h2 : n ≤ n * y := Nat.le_mul_of_pos_right n hy
  rw [h1]
  omega
theorem pot_atop (m : Nat) {w : Frac} {p x : Px} {M y : Nat} (hw : U w) (w16 : w.d ≤ 2 ^ 16) (hp : PotP p M) (hM : 120 ≤ M) (hx : PotO x y) (hy : 1 ≤ y) : PotP (atopP m w p x) (M * (3 * y)) := by
  obtain ⟨F, ⟨uq, c1, L1, a1, s1, i1, j1, f1⟩, hF⟩ := hp
  obtain ⟨n, rfl⟩ := Nat.exists_eq_add_of_le hM
  have h1 : (120 + n) * (3 * y) = 360 * y + 3 * (n * y) := by rw [Nat.add_mul, show n * (3 * y) = 3 * (n * y) by rw [Nat.mul_left_comm]]; omega
  have h2 : n ≤ n * y := Nat.le_mul_of_pos_right n hy
  rw [h1]
  rcases hx with ⟨up, s2⟩ | ⟨F2, ⟨up, c2, L2, a2, s2, i2, j2, f2⟩, hF2⟩
  · obtain ⟨kr, kg, kb, k, C, lk⟩ := Com.any m uq up s1 s2
    have S := atop_Sz m hw w16 uq up s1.al s2.al C lk
    exact ⟨_, ⟨(atop_vals m hw uq up).1, _, _, _, S, by omega, by omega, Nat.le_refl _⟩, by omega⟩
  · obtain ⟨kr, kg, kb, k, C, lk⟩ := Com.any m uq up s1 s2
    have S := atop_Sz m hw w16 uq up s1.al s2.al C lk
    exact ⟨_, ⟨(atop_vals m hw uq up).1, _, _, _, S, by omega, by omega, Nat.le_refl _⟩, by omega⟩
theorem pt_adj (m how : Nat) {w : Frac} {p : Px} {F : Nat} (hw : U w) (w16 : w.d ≤ 2 ^ 16) (hp : Pt p F) : Pt (atopP m w p ⟨changedP how p.c, one⟩) (3 * F + 48) := by
  obtain ⟨uq, c, L, a, s, i, j, f⟩ := hp
  obtain ⟨c', L', S, h | h⟩ := atopA_Sz m how hw w16 uq s
  · exact ⟨(atop_vals m hw uq ⟨(changed_vals how uq.c).1, one_U⟩).1, c', L', a, S, by omega, by omega, by omega⟩
  · exact ⟨(atop_vals m hw uq ⟨(changed_vals how uq.c).1, one_U⟩).1, c', L', a, S, by omega, by omega, by omega⟩
theorem pot_adj (m how : Nat) {w : Frac} {p : Px} {N : Nat} (hw : U w) (w16 : w.d ≤ 2 ^ 16) (hp : Pot p N) : Pot (atopP m w p ⟨changedP how p.c, one⟩) (N * 3) := by
  obtain ⟨F, h, l⟩ := hp
  exact ⟨_, pt_adj m how hw w16 h, by omega⟩
theorem potP_adj (m how : Nat) {w : Frac} {p : Px} {M : Nat} (hw : U w) (w16 : w.d ≤ 2 ^ 16) (hp : PotP p M) : PotP (atopP m w p ⟨changedP how p.c, one⟩) (M * 3) := by
  obtain ⟨F, h, l⟩ := hp
  exact ⟨_, pt_adj m how hw w16 h, by omega⟩
theorem pot_mix {w : Frac} {p r : Px} {N y : Nat} (hw : U w) (w16 : w.d ≤ 2 ^ 16) (hp : Pot p N) (hr : Pot r (N * y)) (hy : 1 ≤ y) : Pot (mixP w p r) (N * (3 * y)) := by
  obtain ⟨F, ⟨uq, c1, L1, a1, s1, i1, j1, f1⟩, hF⟩ := hp
  obtain ⟨F2, ⟨up, c2, L2, a2, s2, i2, j2, f2⟩, hF2⟩ := hr
  have S := mix_Sz hw w16 uq up s1 s2
  refine ⟨_, ⟨(mix_vals hw uq up).1, _, _, _, S, by omega, by omega, Nat.le_refl _⟩, ?_⟩
  have h1 : N * (3 * y) = 3 * (N * y) := by rw [Nat.mul_left_comm]
  have h2 : N ≤ N * y := Nat.le_mul_of_pos_right N hy
  rw [h1]
  omega
/-! what is asked of pixels so that every product is small enough -/
def NL : Nat := 10650000
def NU : Nat := 21300000
def NA : Nat := 5400000
structure Lim (p : Px) (N : Nat) : Prop where
  up : UP p
  r : p.c.r.d ≤ 2 ^ N
  g : p.c.g.d ≤ 2 ^ N
  b : p.c.b.d ≤ 2 ^ N
  a : p.a.d ≤ 2 ^ NA
structure LimL (p : Px) : Prop extends Lim p NL where
  com : lcmAll [p.c.r, p.c.g, p.c.b] 1 ≤ 2 ^ NU
theorem pw_mono {i j : Nat} (h : i ≤ j) : 2 ^ i ≤ 2 ^ j := Nat.pow_le_pow_right (by decide) h
theorem Pt.lim {p : Px} {F : Nat} (h : Pt p F) (l : F ≤ 21258000) : LimL p := by
  obtain ⟨u, c, L, a, s, i, j, f⟩ := h
  have hc : c ≤ NL := by show c ≤ 10650000; omega
  have ha : a ≤ NA := by show a ≤ 5400000; omega
  have hL : L ≤ NU := by show L ≤ 21300000; omega
  refine ⟨⟨u, Nat.le_trans s.r (pw_mono hc), Nat.le_trans s.g (pw_mono hc), Nat.le_trans s.b (pw_mono hc), Nat.le_trans s.al (pw_mono ha)⟩, ?_⟩
  obtain ⟨k, p1, l1, d1, d2, d3⟩ := s.com
  refine Nat.le_trans (Nat.le_of_dvd p1 (lcmAll_least Nat.one_pos (goods (good3 u.c.r u.c.g u.c.b)) (Nat.one_dvd _) fun v hv => ?_)) (Nat.le_trans l1 (pw_mono hL))
  simp only [List.mem_cons, List.not_mem_nil, or_false] at hv
  rcases hv with rfl | rfl | rfl <;> assumption
theorem Pot.lim {p : Px} {N : Nat} (h : Pot p N) (l : N ≤ 21258000) : LimL p := by
  obtain ⟨F, h, k⟩ := h
  exact h.lim (by omega)
theorem PotP.lim {p : Px} {N : Nat} (h : PotP p N) (l : N ≤ 21258000) : LimL p := by
  obtain ⟨F, h, k⟩ := h
  exact h.lim (by omega)
theorem LimL.limU {p : Px} (h : LimL p) : Lim p NU := ⟨h.up, Nat.le_trans h.r (pw_mono (by decide)), Nat.le_trans h.g (pw_mono (by decide)), Nat.le_trans h.b (pw_mono (by decide)), h.a⟩
theorem PotO.limU {p : Px} {y : Nat} (h : PotO p y) (l : 120 * y ≤ 21258000) : Lim p NU := by
  rcases h with ⟨u, s⟩ | h
  · exact ⟨u, Nat.le_trans s.r (pw_mono (by decide)), Nat.le_trans s.g (pw_mono (by decide)), Nat.le_trans s.b (pw_mono (by decide)), Nat.le_trans s.al (pw_mono (by decide))⟩
  · exact (h.lim l).limU
/-- of an adjusted pixel -/
theorem adj_lim (how : Nat) {p : Px} (h : LimL p) : Lim ⟨changedP how p.c, one⟩ (NU + 4) := by
  have hu := (changed_vals how h.up.c).1
  have one1 : one.d ≤ 2 ^ NA := Nat.le_trans (show 1 ≤ 2 ^ 0 by decide) (pw_mono (Nat.zero_le _))
  have two : ∀ {x d : Nat}, d ∣ 2 * x → 0 < x → x ≤ 2 ^ NL → d ≤ 2 ^ (NU + 4) := fun {x d} h1 h2 h3 =>
    Nat.le_trans (Nat.le_of_dvd (Nat.mul_pos (by decide) h2) h1) (Nat.le_trans (mul_le_pow (i := 1) (by decide) h3) (pw_mono (by decide)))
  match how with
  | 0 => exact ⟨⟨hu, one_U⟩, two (Nat.dvd_mul_left _ _) h.up.c.r.good.pos h.r, two (Nat.dvd_mul_left _ _) h.up.c.g.good.pos h.g, two (Nat.dvd_mul_left _ _) h.up.c.b.good.pos h.b, one1⟩
  | 1 =>
    have gg := goods (good3 h.up.c.r h.up.c.g h.up.c.b)
    have dv := (lcmAll_dvd Nat.one_pos gg).2
    have g : (mean [3, 6, 1] [p.c.r, p.c.g, p.c.b]).d ≤ 2 ^ (NU + 4) := by
      have d := grey_den h.up.c (dv p.c.r (by simp)) (dv p.c.g (by simp)) (dv p.c.b (by simp))
      refine Nat.le_trans (Nat.le_of_dvd (Nat.mul_pos (by decide) (lcmAll_pos Nat.one_pos gg)) d) ?_
      have := mul_le_pow (i := 4) (a := 10) (by decide) h.com
      rw [Nat.add_comm NU 4]
      exact this
    exact ⟨⟨hu, one_U⟩, g, g, g, one1⟩
  | k + 2 => exact ⟨⟨hu, one_U⟩, two near_den h.up.c.r.good.pos h.r, two near_den h.up.c.g.good.pos h.g, two near_den h.up.c.b.good.pos h.b, one1⟩
end LM

set_option Elab.async false
set_option linter.all false
namespace LM
open Ie02
abbrev LKind := Ie02.Kind
/-! documents: numbers, levels, what is in what -/
def isGroup (k : LKind) : Bool := match k with
  | .group _ => true
  | _ => false
def kidIds (d : Doc) (p : Nat) : List Nat := (d.kids p).map (·.id)
def Par (d : Doc) (p : Nat) : Prop := p = 0 ∨ ∃ l ∈ d.layers, l.id = p ∧ isGroup l.kind = true
def Ids (d : Doc) : Prop := (d.layers.map (·.id)).Nodup ∧ ∀ l ∈ d.layers, 1 ≤ l.id
/-- levels -/
structure Lev (d : Doc) (f : Nat → Nat) : Prop where
  zero : f 0 = 0
  up : ∀ l ∈ d.layers, Par d l.parent ∧ f l.id = f l.parent + 1 ∧ f l.id ≤ 4
theorem find_mem {d : Doc} {n : Nat} {l : Layer} (h : d.find n = some l) : l ∈ d.layers ∧ l.id = n := by
  unfold Doc.find at h
  exact ⟨List.mem_of_find?_eq_some h, by simpa using List.find?_some h⟩
theorem find_of {d : Doc} (I : Ids d) {l : Layer} (h : l ∈ d.layers) : d.find l.id = some l := by
  unfold Doc.find
  have nd := I.1
  generalize d.layers = ls at h nd
  induction ls with
  | nil => cases h
  | cons a r ih =>
    rw [List.map_cons, List.nodup_cons] at nd
    rcases List.mem_cons.mp h with rfl | h
    · simp
    · have ne : ¬ a.id = l.id := fun e => nd.1 (by rw [e]; exact List.mem_map_of_mem h)
      rw [List.find?_cons_of_neg (by simpa using ne)]
      exact ih h nd.2
theorem mem_unique {d : Doc} (I : Ids d) {l m : Layer} (hl : l ∈ d.layers) (hm : m ∈ d.layers) (e : l.id = m.id) : l = m := by
  have h1 := find_of I hl
  rw [e, find_of I hm] at h1
  exact (Option.some.inj h1).symm
theorem takes_iff {d : Doc} (I : Ids d) (p : Nat) : d.takes p = true ↔ Par d p := by
  unfold Doc.takes Par
  rw [Bool.or_eq_true, beq_iff_eq]
  constructor
  · rintro (h | h)
    · exact .inl h
    · cases e : d.find p with
      | none => rw [e] at h; cases h
      | some l =>
        rw [e] at h
        obtain ⟨hl, rfl⟩ := find_mem e
        exact .inr ⟨l, hl, rfl, h⟩
  · rintro (h | ⟨l, hl, rfl, h⟩)
    · exact .inl h
    · rw [find_of I hl]
      exact .inr h
/-- x is n or in it -/
inductive Des (d : Doc) (n : Nat) : Nat → Prop
  | self : Des d n n
  | step {l : Layer} (h : l ∈ d.layers) (p : Des d n l.parent) : Des d n l.id
theorem Lev.pos {d : Doc} {f : Nat → Nat} (L : Lev d f) {l : Layer} (h : l ∈ d.layers) : 1 ≤ f l.id := by
  have := (L.up l h).2.1
  omega
theorem Des.lev {d : Doc} {f : Nat → Nat} (L : Lev d f) {n x : Nat} (h : Des d n x) : f n ≤ f x := by
  induction h with
  | self => exact Nat.le_refl _
  | @step l hl _ ih =>
    have := (L.up l hl).2.1
    omega
def Known (d : Doc) (x : Nat) : Prop := x = 0 ∨ ∃ l ∈ d.layers, l.id = x
theorem Par.known {d : Doc} {p : Nat} (h : Par d p) : Known d p := by
  rcases h with h | ⟨l, a, b, _⟩
  · exact .inl h
  · exact .inr ⟨l, a, b⟩
theorem find_zero {d : Doc} (I : Ids d) : d.find 0 = none := by
  cases e : d.find 0 with
  | none => rfl
  | some l =>
    obtain ⟨h, z⟩ := find_mem e
    have := I.2 l h
    omega
/-- the fuel suffices: within tells what is in what -/
theorem within_iff {d : Doc} {f : Nat → Nat} (I : Ids d) (L : Lev d f) (n : Nat) : ∀ (k x : Nat), f x < k → Known d x → (d.within n k x = true ↔ Des d n x)
  | 0, x, h, _ => by omega
  | k + 1, x, h, kn => by
    show (x == n || match d.find x with
      | none => false
      | some q => d.within n k q.parent) = true ↔ _
    rw [Bool.or_eq_true, beq_iff_eq]
    constructor
    · rintro (rfl | w)
      · exact .self
      · cases e : d.find x with
        | none => rw [e] at w; cases w
        | some q =>
          rw [e] at w
          obtain ⟨hq, rfl⟩ := find_mem e
          have u := L.up q hq
          exact .step hq ((within_iff I L n k q.parent (by omega) u.1.known).mp w)
    · intro w
      cases w with
      | self => exact .inl rfl
      | @step l hl p =>
        right
        rw [find_of I hl]
        have u := L.up l hl
        exact (within_iff I L n k l.parent (by omega) u.1.known).mpr p
theorem depth_eq {d : Doc} {f : Nat → Nat} (I : Ids d) (L : Lev d f) : ∀ (k x : Nat), f x < k → Known d x → d.depth k x = f x
  | 0, x, h, _ => by omega
  | k + 1, x, h, kn => by
    show (match d.find x with
      | none => 0
      | some l => d.depth k l.parent + 1) = f x
    rcases kn with rfl | ⟨l, hl, rfl⟩
    · rw [find_zero I, L.zero]
    · rw [find_of I hl]
      have u := L.up l hl
      show d.depth k l.parent + 1 = f l.id
      rw [depth_eq I L k l.parent (by omega) u.1.known]
      omega
theorem Lev.le4 {d : Doc} {f : Nat → Nat} (L : Lev d f) {x : Nat} (h : Known d x) : f x ≤ 4 := by
  rcases h with rfl | ⟨l, hl, rfl⟩
  · rw [L.zero]; omega
  · exact (L.up l hl).2.2
theorem kids_mem {d : Doc} {p : Nat} {l : Layer} : l ∈ d.kids p ↔ l ∈ d.layers ∧ l.parent = p := by
  unfold Doc.kids
  rw [List.mem_filter, beq_iff_eq]
theorem kidIds_mem {d : Doc} {p x : Nat} : x ∈ kidIds d p ↔ ∃ l ∈ d.layers, l.parent = p ∧ l.id = x := by
  unfold kidIds
  rw [List.mem_map]
  constructor
  · rintro ⟨l, h, e⟩
    obtain ⟨a, b⟩ := kids_mem.mp h
    exact ⟨l, a, b, e⟩
  · rintro ⟨l, a, b, e⟩
    exact ⟨l, kids_mem.mpr ⟨a, b⟩, e⟩
theorem filter_ids_nodup {d : Doc} (I : Ids d) (q : Layer → Bool) : ((d.layers.filter q).map (·.id)).Nodup := List.Nodup.sublist (List.Sublist.map _ (List.filter_sublist)) I.1
theorem kidIds_nodup {d : Doc} (I : Ids d) (p : Nat) : (kidIds d p).Nodup := filter_ids_nodup I _
/-- a layer that is no group has none in it -/
theorem kids_nil {d : Doc} {f : Nat → Nat} (I : Ids d) (L : Lev d f) {l : Layer} (h : l ∈ d.layers) (g : isGroup l.kind = false) : d.kids l.id = [] := by
  unfold Doc.kids
  rw [List.filter_eq_nil_iff]
  intro m hm e
  rw [beq_iff_eq] at e
  rcases (L.up m hm).1 with z | ⟨q, hq, e2, g2⟩
  · have := I.2 l h
    omega
  · have : q = l := mem_unique I hq h (by omega)
    subst this
    rw [g] at g2
    cases g2
theorem nodup_len {α : Type} [DecidableEq α] : ∀ {a b : List α}, a.Nodup → (∀ x ∈ a, x ∈ b) → a.length ≤ b.length
  | [], b, _, _ => Nat.zero_le _
  | x :: r, b, nd, h => by
    rw [List.nodup_cons] at nd
    have hx : x ∈ b := h x (List.mem_cons_self ..)
    have ih := nodup_len (a := r) (b := b.erase x) nd.2 fun y hy => by
      have ne : y ≠ x := fun e => nd.1 (e ▸ hy)
      exact (List.mem_erase_of_ne ne).mpr (h y (List.mem_cons_of_mem _ hy))
    rw [List.length_erase_of_mem hx] at ih
    have : 0 < b.length := List.length_pos_of_mem hx
    rw [List.length_cons]
    omega
/-- the search from n on: i of those found are looked at -/
structure Bfs (d : Doc) (n : Nat) (found : List Nat) (i : Nat) : Prop where
  nd : found.Nodup
  head : n ∈ found
  le : i ≤ found.length
  kn : ∀ x ∈ found, ∃ l ∈ d.layers, l.id = x
  des : ∀ x ∈ found, Des d n x
  src : ∀ x ∈ found, x = n ∨ ∃ l ∈ d.layers, l.id = x ∧ ∃ j, j < i ∧ found[j]? = some l.parent
  closed : ∀ j, j < i → ∀ y, found[j]? = some y → ∀ l ∈ d.layers, l.parent = y → l.id ∈ found
theorem Bfs.start {d : Doc} {l : Layer} (h : l ∈ d.layers) : Bfs d l.id [l.id] 0 := by
  refine ⟨by simp, by simp, by simp, fun x hx => ?_, fun x hx => ?_, fun x hx => ?_, fun j hj => absurd hj (by omega)⟩
  all_goals
    rw [List.mem_singleton] at hx
    subst hx
  · exact ⟨l, h, rfl⟩
  · exact .self
  · exact .inl rfl
theorem getElem?_append_lt {α : Type} {a b : List α} {j : Nat} (h : j < a.length) : (a ++ b)[j]? = a[j]? := by
  rw [List.getElem?_append_left h]
theorem Bfs.step {d : Doc} {f : Nat → Nat} (I : Ids d) (L : Lev d f) {n x i : Nat} {found : List Nat} (B : Bfs d n found i) (hx : found[i]? = some x) : Bfs d n (found ++ kidIds d x) (i + 1) := by
  obtain ⟨hi, _⟩ := List.getElem?_eq_some_iff.mp hx
  have xm := List.mem_of_getElem? hx
  have xd := B.des x xm
  refine ⟨?_, List.mem_append_left _ B.head, by rw [List.length_append]; omega, fun y hy => ?_, fun y hy => ?_, fun y hy => ?_, fun j hj y hy l hl e => ?_⟩
  · rw [List.nodup_append]
    refine ⟨B.nd, kidIds_nodup I x, fun a ha b hb e => ?_⟩
    subst e
    obtain ⟨l, hl, lp, le⟩ := kidIds_mem.mp hb
    rcases B.src a ha with rfl | ⟨l2, hl2, e2, j, hj, ej⟩
    · have h1 := xd.lev L
      have h2 := (L.up l hl).2.1
      rw [le, lp] at h2
      omega
    · have : l2 = l := mem_unique I hl2 hl (by omega)
      subst this
      rw [lp] at ej
      obtain ⟨hj', e3⟩ := List.getElem?_eq_some_iff.mp ej
      obtain ⟨hi', e4⟩ := List.getElem?_eq_some_iff.mp hx
      have := (List.getElem_inj B.nd).mp (e3.trans e4.symm)
      omega
  · rcases List.mem_append.mp hy with hy | hy
    · exact B.kn y hy
    · obtain ⟨l, hl, _, e⟩ := kidIds_mem.mp hy
      exact ⟨l, hl, e⟩
  · rcases List.mem_append.mp hy with hy | hy
    · exact B.des y hy
    · obtain ⟨l, hl, lp, rfl⟩ := kidIds_mem.mp hy
      exact .step hl (by rw [lp]; exact xd)
  · rcases List.mem_append.mp hy with hy | hy
    · rcases B.src y hy with e | ⟨l, hl, e, j, hj, ej⟩
      · exact .inl e
      · exact .inr ⟨l, hl, e, j, by omega, by rw [getElem?_append_lt (by have := B.le; omega)]; exact ej⟩
    · obtain ⟨l, hl, lp, e⟩ := kidIds_mem.mp hy
      exact .inr ⟨l, hl, e, i, by omega, by rw [getElem?_append_lt hi, lp]; exact hx⟩
  · rw [getElem?_append_lt (by omega)] at hy
    by_cases c : j = i
    · subst c
      rw [hx] at hy
      cases hy
      exact List.mem_append_right _ (kidIds_mem.mpr ⟨l, hl, e, rfl⟩)
    · exact List.mem_append_left _ (B.closed j (by omega) y hy l hl e)
theorem Bfs.len {d : Doc} {n i : Nat} {found : List Nat} (B : Bfs d n found i) : found.length ≤ d.layers.length := by
  have := nodup_len (b := d.layers.map (·.id)) B.nd fun x hx => by
    obtain ⟨l, hl, e⟩ := B.kn x hx
    exact List.mem_map.mpr ⟨l, hl, e⟩
  rwa [List.length_map] at this
/-- what is removed with n -/
def sub (d : Doc) (n : Nat) : List Nat := (d.layers.filter fun y => d.within n (LAYERS + 1) y.id).map (·.id)
theorem sub_mem {d : Doc} {f : Nat → Nat} (I : Ids d) (L : Lev d f) {n x : Nat} : x ∈ sub d n ↔ (∃ l ∈ d.layers, l.id = x) ∧ Des d n x := by
  have key : ∀ l ∈ d.layers, (d.within n (LAYERS + 1) l.id = true ↔ Des d n l.id) := fun l hl => within_iff I L n _ _ (by have := (L.up l hl).2.2; show f l.id < 13; omega) (.inr ⟨l, hl, rfl⟩)
  unfold sub
  rw [List.mem_map]
  constructor
  · rintro ⟨l, h, rfl⟩
    rw [List.mem_filter] at h
    exact ⟨⟨l, h.1, rfl⟩, (key l h.1).mp h.2⟩
  · rintro ⟨⟨l, hl, rfl⟩, h⟩
    exact ⟨l, List.mem_filter.mpr ⟨hl, (key l hl).mpr h⟩, rfl⟩
theorem Bfs.all {d : Doc} {n : Nat} {found : List Nat} (B : Bfs d n found found.length) {x : Nat} (h : Des d n x) : x ∈ found := by
  induction h with
  | self => exact B.head
  | @step l hl p ih =>
    obtain ⟨j, hj, e⟩ := List.mem_iff_getElem.mp ih
    exact B.closed j hj l.parent (by rw [List.getElem?_eq_getElem hj, e]) l hl rfl
theorem Bfs.done {d : Doc} {f : Nat → Nat} (I : Ids d) (L : Lev d f) {n : Nat} {found : List Nat} (B : Bfs d n found found.length) : found.Perm (sub d n) := by
  rw [List.perm_ext_iff_of_nodup B.nd (show (sub d n).Nodup from filter_ids_nodup I _)]
  intro x
  show x ∈ found ↔ x ∈ sub d n
  rw [sub_mem I L]
  constructor
  · intro h
    exact ⟨B.kn x h, B.des x h⟩
  · rintro ⟨_, h⟩
    exact B.all h
/-! heights -/
theorem des_head {d : Doc} {p x : Nat} (h : Des d p x) : x = p ∨ ∃ l ∈ d.layers, l.parent = p ∧ Des d l.id x := by
  induction h with
  | self => exact .inl rfl
  | @step l hl q ih =>
    rcases ih with e | ⟨m, hm, mp, dm⟩
    · exact .inr ⟨l, hl, e, .self⟩
    · exact .inr ⟨m, hm, mp, .step hl dm⟩
theorem Des.trans {d : Doc} {a b x : Nat} (h : Des d a b) (k : Des d b x) : Des d a x := by
  induction k with
  | self => exact h
  | @step l hl _ ih => exact .step hl ih
theorem foldl_max : ∀ (l : List Nat) (a : Nat), (∀ y ∈ l, y ≤ l.foldl max a) ∧ a ≤ l.foldl max a ∧ (l.foldl max a = a ∨ l.foldl max a ∈ l)
  | [], a => ⟨(fun _ h => nomatch h), Nat.le_refl _, .inl rfl⟩
  | x :: r, a => by
    obtain ⟨h1, h2, h3⟩ := foldl_max r (max a x)
    rw [List.foldl_cons]
    refine ⟨fun y hy => ?_, by omega, ?_⟩
    · rcases List.mem_cons.mp hy with rfl | hy
      · omega
      · exact h1 y hy
    · rcases h3 with h3 | h3
      · rcases Nat.le_total a x with l | l
        · right
          rw [h3, Nat.max_eq_right l]
          exact List.mem_cons_self ..
        · left
          rw [h3, Nat.max_eq_left l]
      · exact .inr (List.mem_cons_of_mem _ h3)
theorem height_max {d : Doc} {f : Nat → Nat} (I : Ids d) (L : Lev d f) : ∀ (k p : Nat), Known d p → 4 < k + f p → (∃ x, Des d p x ∧ Known d x ∧ f x + 1 = d.height k p + f p) ∧ ∀ x, Des d p x → f x + 1 ≤ d.height k p + f p
  | 0, p, kn, h => by
    have := L.le4 kn
    omega
  | k + 1, p, kn, h => by
    have ih : ∀ l ∈ d.layers, l.parent = p → (∃ x, Des d l.id x ∧ Known d x ∧ f x + 1 = d.height k l.id + f l.id) ∧ ∀ x, Des d l.id x → f x + 1 ≤ d.height k l.id + f l.id := fun l hl e => by
      have u := (L.up l hl).2.1
      rw [e] at u
      exact height_max I L k l.id (.inr ⟨l, hl, rfl⟩) (by omega)
    obtain ⟨m1, m2, m3⟩ := foldl_max ((d.kids p).map fun l => d.height k l.id) 0
    have e : d.height (k + 1) p = ((d.kids p).map fun l => d.height k l.id).foldl max 0 + 1 := rfl
    rw [e]
    refine ⟨?_, fun x hx => ?_⟩
    · rcases m3 with z | z
      · exact ⟨p, .self, kn, by omega⟩
      · obtain ⟨l, hl, el⟩ := List.mem_map.mp z
        obtain ⟨a, b⟩ := kids_mem.mp hl
        obtain ⟨⟨x, h1, h2, h3⟩, _⟩ := ih l a b
        have u := (L.up l a).2.1
        rw [b] at u
        exact ⟨x, Des.trans (.step a (by rw [b]; exact .self)) h1, h2, by omega⟩
    · rcases des_head hx with rfl | ⟨l, hl, lp, dl⟩
      · omega
      · have h1 := (ih l hl lp).2 x dl
        have h2 := m1 (d.height k l.id) (List.mem_map.mpr ⟨l, kids_mem.mpr ⟨hl, lp⟩, rfl⟩)
        have u := (L.up l hl).2.1
        rw [lp] at u
        omega
end LM

set_option Elab.async false
set_option linter.all false
namespace LM
open Ie02
/-! what stays true of a document -/
def QOk (q : Nat × Nat × Nat × Nat) : Prop := q.1 ≤ 255 ∧ q.2.1 ≤ 255 ∧ q.2.2.1 ≤ 255 ∧ q.2.2.2 ≤ 255
structure LOk (n : Nat) (l : Layer) : Prop where
  op : l.opacity ≤ 255
  mode : l.mode ≤ 11
  mlen : l.mask.length = n
  mask : ∀ m ∈ l.mask, m ≤ 255
  clen : l.cells.length = n
  cells : ∀ q ∈ l.cells, QOk q
structure WF (d : Doc) : Prop where
  w1 : 1 ≤ d.w
  w6 : d.w ≤ 6
  h1 : 1 ≤ d.h
  h6 : d.h ≤ 6
  len : d.layers.length ≤ 12
  ids : Ids d
  nx : ∀ l ∈ d.layers, l.id < d.next
  n1 : 1 ≤ d.next
  lev : ∃ f, Lev d f
  ok : ∀ l ∈ d.layers, LOk (d.w * d.h) l
theorem wf_init : WF init := by
  have none : ∀ l ∈ init.layers, False := fun l h => by cases h
  exact ⟨by decide, by decide, by decide, by decide, by decide, ⟨by decide, fun l h => (none l h).elim⟩, fun l h => (none l h).elim, by decide, ⟨fun _ => 0, rfl, fun l h => (none l h).elim⟩, fun l h => (none l h).elim⟩
theorem wf_page {w h : Nat} (h1 : 1 ≤ w) (h2 : w ≤ 6) (h3 : 1 ≤ h) (h4 : h ≤ 6) : WF ⟨w, h, [], 1⟩ := by
  have none : ∀ l ∈ (⟨w, h, [], 1⟩ : Doc).layers, False := fun l h => by cases h
  exact ⟨h1, h2, h3, h4, by show 0 ≤ 12; omega, ⟨List.nodup_nil, fun l h => (none l h).elim⟩, fun l h => (none l h).elim, Nat.le_refl _, ⟨fun _ => 0, rfl, fun l h => (none l h).elim⟩, fun l h => (none l h).elim⟩
/-! a change that keeps numbers, parents and kinds -/
theorem edit_layers (d : Doc) (i : Nat) (g : Layer → Layer) : (d.edit i g).layers = d.layers.map fun l => if l.id = i then g l else l := rfl
structure Tame (g : Layer → Layer) : Prop where
  id : ∀ l, (g l).id = l.id
  parent : ∀ l, (g l).parent = l.parent
  kind : ∀ l, (g l).kind = l.kind
theorem Tame.ite {g : Layer → Layer} (t : Tame g) (i : Nat) : Tame fun l => if l.id = i then g l else l :=
  ⟨fun l => by split; exact t.id l; rfl, fun l => by split; exact t.parent l; rfl, fun l => by split; exact t.kind l; rfl⟩
theorem edit_mem {d : Doc} {i : Nat} {g : Layer → Layer} {m : Layer} : m ∈ (d.edit i g).layers ↔ ∃ l ∈ d.layers, (if l.id = i then g l else l) = m := by
  rw [edit_layers, List.mem_map]
theorem edit_par {d : Doc} {i : Nat} {g : Layer → Layer} (t : Tame g) (p : Nat) : Par (d.edit i g) p ↔ Par d p := by
  have t2 := t.ite i
  unfold Par
  constructor
  · rintro (h | ⟨m, hm, e, k⟩)
    · exact .inl h
    · obtain ⟨l, hl, rfl⟩ := edit_mem.mp hm
      exact .inr ⟨l, hl, by rw [← e]; exact (t2.id l).symm, by rw [← k]; exact congrArg isGroup (t2.kind l).symm⟩
  · rintro (h | ⟨l, hl, e, k⟩)
    · exact .inl h
    · exact .inr ⟨_, edit_mem.mpr ⟨l, hl, rfl⟩, (t2.id l).trans e, (congrArg isGroup (t2.kind l)).trans k⟩
theorem edit_ids {d : Doc} {i : Nat} {g : Layer → Layer} (t : Tame g) : (d.edit i g).layers.map (·.id) = d.layers.map (·.id) := by
  rw [edit_layers, List.map_map]
  exact List.map_congr_left fun l _ => (t.ite i).id l
theorem edit_kids {d : Doc} {i : Nat} {g : Layer → Layer} (t : Tame g) (p : Nat) : (d.edit i g).kids p = (d.kids p).map fun l => if l.id = i then g l else l := by
  unfold Doc.kids
  rw [edit_layers, List.filter_map]
  congr 1
  refine List.filter_congr fun l _ => ?_
  show ((if l.id = i then g l else l).parent == p) = (l.parent == p)
  rw [show (if l.id = i then g l else l).parent = l.parent from (t.ite i).parent l]
theorem edit_kidIds {d : Doc} {i : Nat} {g : Layer → Layer} (t : Tame g) (p : Nat) : kidIds (d.edit i g) p = kidIds d p := by
  unfold kidIds
  rw [edit_kids t, List.map_map]
  exact List.map_congr_left fun l _ => (t.ite i).id l
theorem wf_edit {d : Doc} {i : Nat} {g : Layer → Layer} (W : WF d) (t : Tame g) (hg : ∀ l, LOk (d.w * d.h) l → LOk (d.w * d.h) (g l)) : WF (d.edit i g) := by
  obtain ⟨f, L⟩ := W.lev
  have t2 := t.ite i
  refine ⟨W.w1, W.w6, W.h1, W.h6, by rw [edit_layers, List.length_map]; exact W.len, ⟨by rw [edit_ids t]; exact W.ids.1, fun m hm => ?_⟩, fun m hm => ?_, W.n1, ⟨f, L.zero, fun m hm => ?_⟩, fun m hm => ?_⟩
  all_goals obtain ⟨l, hl, rfl⟩ := edit_mem.mp hm
  · show 1 ≤ ((fun l => if l.id = i then g l else l) l).id
    rw [t2.id]
    exact W.ids.2 l hl
  · show ((fun l => if l.id = i then g l else l) l).id < _
    rw [t2.id]
    exact W.nx l hl
  · have u := L.up l hl
    have e1 : (if l.id = i then g l else l).id = l.id := t2.id l
    have e2 : (if l.id = i then g l else l).parent = l.parent := t2.parent l
    rw [e1, e2]
    exact ⟨(edit_par t _).mpr u.1, u.2⟩
  · split
    · exact hg l (W.ok l hl)
    · exact W.ok l hl
/-! a new layer -/
def pushD (d : Doc) (l : Layer) : Doc := ⟨d.w, d.h, d.layers ++ [l], d.next + 1⟩
theorem push_par {d : Doc} {l : Layer} {p : Nat} (h : Par d p) : Par (pushD d l) p := by
  rcases h with h | ⟨m, hm, e⟩
  · exact .inl h
  · exact .inr ⟨m, List.mem_append_left _ hm, e⟩
theorem push_kidIds {d : Doc} {l : Layer} (q : Nat) : kidIds (pushD d l) q = kidIds d q ++ (if l.parent = q then [l.id] else []) := by
  unfold kidIds Doc.kids pushD
  rw [List.filter_append, List.map_append]
  congr 1
  by_cases h : l.parent = q
  · rw [if_pos h, List.filter_cons_of_pos (by simpa using h)]
    rfl
  · rw [if_neg h, List.filter_cons_of_neg (by simpa using h)]
    rfl
theorem kidIds_none {d : Doc} {q : Nat} (h : ∀ l ∈ d.layers, l.parent ≠ q) : kidIds d q = [] := by
  unfold kidIds Doc.kids
  rw [List.filter_eq_nil_iff.mpr fun l hl e => h l hl (by simpa using e)]
  rfl
theorem par_lt {d : Doc} (W : WF d) {p : Nat} (h : Par d p) : p < d.next := by
  rcases h with rfl | ⟨m, hm, rfl, _⟩
  · exact W.n1
  · exact W.nx m hm
theorem push_new_kids {d : Doc} (W : WF d) {l : Layer} (hi : l.id = d.next) (hp : Par d l.parent) : kidIds (pushD d l) d.next = [] := by
  obtain ⟨f, L⟩ := W.lev
  rw [push_kidIds, kidIds_none fun m hm e => ?_, if_neg (by have := par_lt W hp; omega)]
  · rfl
  · have := par_lt W (L.up m hm).1
    omega
theorem wf_push {d : Doc} (W : WF d) {l : Layer} {f : Nat → Nat} (L : Lev d f) (hi : l.id = d.next) (hp : Par d l.parent) (lv : f l.parent < 4) (ln : d.layers.length < 12) (ok : LOk (d.w * d.h) l) : WF (pushD d l) := by
  have mem : ∀ m, m ∈ (pushD d l).layers → m ∈ d.layers ∨ m = l := fun m hm => by
    rcases List.mem_append.mp hm with h | h
    · exact .inl h
    · exact .inr (List.mem_singleton.mp h)
  have plt := par_lt W hp
  refine ⟨W.w1, W.w6, W.h1, W.h6, by show (d.layers ++ [l]).length ≤ 12; rw [List.length_append]; show d.layers.length + 1 ≤ 12; omega, ⟨?_, fun m hm => ?_⟩, fun m hm => ?_, by show 1 ≤ d.next + 1; omega, ⟨fun x => if x = d.next then f l.parent + 1 else f x, ?_, fun m hm => ?_⟩, fun m hm => ?_⟩
  · show ((d.layers ++ [l]).map (·.id)).Nodup
    rw [List.map_append, List.nodup_append]
    refine ⟨W.ids.1, by simp, fun a ha b hb e => ?_⟩
    obtain ⟨m, hm, rfl⟩ := List.mem_map.mp ha
    have e2 : b = l.id := by simpa using hb
    have := W.nx m hm
    omega
  · rcases mem m hm with h | rfl
    · exact W.ids.2 m h
    · have := W.n1; omega
  · show m.id < d.next + 1
    rcases mem m hm with h | rfl
    · have := W.nx m h; omega
    · omega
  · rw [if_neg (by have := W.n1; omega)]
    exact L.zero
  · rcases mem m hm with h | rfl
    · have u := L.up m h
      have h1 := W.nx m h
      have h2 := par_lt W u.1
      rw [if_neg (by omega), if_neg (by omega)]
      exact ⟨push_par u.1, u.2⟩
    · rw [if_pos hi, if_neg (by omega)]
      exact ⟨push_par hp, rfl, by omega⟩
  · rcases mem m hm with h | rfl
    · exact W.ok m h
    · exact ok
/-! moving -/
theorem placed_perm (p : Nat) (x : Layer) : ∀ (k : Nat) (r : List Layer), (placed p x k r).Perm (x :: r)
  | _, [] => .refl _
  | k, y :: l => by
    unfold placed
    by_cases h : y.parent = p
    · rw [if_pos h]
      cases k with
      | zero => exact .refl _
      | succ j => exact ((placed_perm p x j l).cons y).trans (.swap x y l)
    · rw [if_neg h]
      exact ((placed_perm p x k l).cons y).trans (.swap x y l)
def insAt {α : Type} (k : Nat) (x : α) (l : List α) : List α := l.take k ++ [x] ++ l.drop k
theorem placed_filter (p : Nat) (x : Layer) (hx : x.parent = p) (q : Nat) : ∀ (k : Nat) (r : List Layer), (placed p x k r).filter (fun l => l.parent == q) = if q = p then insAt k x (r.filter fun l => l.parent == p) else r.filter fun l => l.parent == q
  | k, [] => by
    show [x].filter _ = _
    by_cases h : q = p
    · rw [if_pos h, List.filter_cons_of_pos (by simp [hx, h])]
      unfold insAt
      simp
    · rw [if_neg h, List.filter_cons_of_neg (by simp [hx]; omega)]
  | k, y :: l => by
    unfold placed
    by_cases h : y.parent = p
    · rw [if_pos h]
      cases k with
      | zero =>
        show (x :: y :: l).filter _ = _
        by_cases c : q = p
        · subst c
          rw [if_pos rfl, List.filter_cons_of_pos (by simp [hx])]
          unfold insAt
          simp
        · rw [if_neg c, List.filter_cons_of_neg (by simp [hx]; omega)]
      | succ j =>
        show (y :: placed p x j l).filter _ = _
        have ih := placed_filter p x hx q j l
        by_cases c : q = p
        · subst c
          rw [if_pos rfl] at ih ⊢
          rw [List.filter_cons_of_pos (by simp [h]), ih, List.filter_cons_of_pos (by simp [h])]
          unfold insAt
          simp
        · rw [if_neg c] at ih ⊢
          rw [List.filter_cons_of_neg (by simp [h]; omega), ih, List.filter_cons_of_neg (by simp [h]; omega)]
    · rw [if_neg h]
      have ih := placed_filter p x hx q k l
      by_cases c : q = p
      · subst c
        rw [if_pos rfl] at ih ⊢
        rw [List.filter_cons_of_neg (by simp [h]), ih, List.filter_cons_of_neg (by simp [h])]
      · rw [if_neg c] at ih ⊢
        rw [List.filter_cons, List.filter_cons, ih]
def moveD (d : Doc) (l : Layer) (p k : Nat) : Doc := { d with layers := placed p { l with parent := p } k (d.layers.filter fun y => y.id != l.id) }
theorem insAt_map {α β : Type} (f : α → β) (k : Nat) (x : α) (l : List α) : (insAt k x l).map f = insAt k (f x) (l.map f) := by
  unfold insAt
  simp [List.map_take, List.map_drop]
theorem kidIds_filter (d : Doc) (q i : Nat) : ((d.layers.filter fun y => y.id != i).filter fun l => l.parent == q).map (·.id) = (kidIds d q).filter fun x => x != i := by
  unfold kidIds Doc.kids
  rw [List.filter_map]
  rw [List.filter_filter, List.filter_filter]
  congr 1
  refine List.filter_congr fun l _ => ?_
  rw [Bool.and_comm]
  rfl
theorem move_kidIds {d : Doc} {l : Layer} {p k : Nat} (q : Nat) : kidIds (moveD d l p k) q = if q = p then insAt k l.id ((kidIds d p).filter fun x => x != l.id) else (kidIds d q).filter fun x => x != l.id := by
  show ((placed p { l with parent := p } k (d.layers.filter fun y => y.id != l.id)).filter fun l => l.parent == q).map (·.id) = _
  rw [placed_filter p { l with parent := p } rfl q]
  by_cases c : q = p
  · subst c
    rw [if_pos rfl, if_pos rfl, insAt_map, kidIds_filter]
  · rw [if_neg c, if_neg c, kidIds_filter]
theorem move_mem {d : Doc} {l m : Layer} {p k : Nat} : m ∈ (moveD d l p k).layers ↔ m = { l with parent := p } ∨ (m ∈ d.layers ∧ m.id ≠ l.id) := by
  show m ∈ placed p { l with parent := p } k (d.layers.filter fun y => y.id != l.id) ↔ _
  rw [(placed_perm p _ k _).mem_iff, List.mem_cons, List.mem_filter, bne_iff_ne]
theorem filter_perm {d : Doc} (I : Ids d) {l : Layer} (h : l ∈ d.layers) : (l :: d.layers.filter fun y => y.id != l.id).Perm d.layers := by
  have nd := I.1
  generalize d.layers = ls at h nd
  induction ls with
  | nil => cases h
  | cons a r ih =>
    rw [List.map_cons, List.nodup_cons] at nd
    rcases List.mem_cons.mp h with rfl | h
    · rw [List.filter_cons_of_neg (by simp)]
      rw [List.filter_eq_self.mpr fun y hy => ?_]
      rw [bne_iff_ne]
      intro e
      exact nd.1 (by rw [← e]; exact List.mem_map_of_mem hy)
    · have ne : a.id ≠ l.id := fun e => nd.1 (by rw [e]; exact List.mem_map_of_mem h)
      rw [List.filter_cons_of_pos (by simpa using ne)]
      exact (List.Perm.swap a l _).trans ((ih h nd.2).cons a)
theorem move_ids {d : Doc} (I : Ids d) {l : Layer} (h : l ∈ d.layers) (p k : Nat) : ((moveD d l p k).layers.map (·.id)).Perm (d.layers.map (·.id)) := by
  refine ((placed_perm p { l with parent := p } k (d.layers.filter fun y => y.id != l.id)).map _).trans ?_
  exact (filter_perm I h).map (·.id)
theorem move_par {d : Doc} (I : Ids d) {l : Layer} (h : l ∈ d.layers) {p k q : Nat} : Par (moveD d l p k) q ↔ Par d q := by
  unfold Par
  constructor
  · rintro (z | ⟨m, hm, e, g⟩)
    · exact .inl z
    · rcases move_mem.mp hm with rfl | ⟨hm, _⟩
      · exact .inr ⟨l, h, e, g⟩
      · exact .inr ⟨m, hm, e, g⟩
  · rintro (z | ⟨m, hm, e, g⟩)
    · exact .inl z
    · by_cases c : m.id = l.id
      · have := mem_unique I hm h c
        subst this
        exact .inr ⟨_, move_mem.mpr (.inl rfl), e, g⟩
      · exact .inr ⟨m, move_mem.mpr (.inr ⟨hm, c⟩), e, g⟩
theorem wf_move {d : Doc} (W : WF d) {f : Nat → Nat} (L : Lev d f) {l : Layer} (h : l ∈ d.layers) {p k : Nat} (hp : Par d p) (nd : ¬ Des d l.id p) (lv : f p + d.height LAYERS l.id ≤ 4) : WF (moveD d l p k) := by
  have I := W.ids
  have u := L.up l h
  have hm := (height_max I L LAYERS l.id (.inr ⟨l, h, rfl⟩) (by show 4 < 12 + _; omega)).2
  have ids := move_ids I h p k
  refine ⟨W.w1, W.w6, W.h1, W.h6, ?_, ⟨ids.nodup_iff.mpr I.1, fun m hm => ?_⟩, fun m hm => ?_, W.n1, ?_, fun m hm => ?_⟩
  · have := ids.length_eq
    rw [List.length_map, List.length_map] at this
    rw [this]
    exact W.len
  · rcases move_mem.mp hm with rfl | ⟨hm, _⟩
    · exact I.2 l h
    · exact I.2 m hm
  · rcases move_mem.mp hm with rfl | ⟨hm, _⟩
    · exact W.nx l h
    · exact W.nx m hm
  · classical
    refine ⟨fun x => if Des d l.id x then f x + (f p + 1) - f l.id else f x, ?_, fun m hm2 => ?_⟩
    · rw [if_neg fun z => ?_]
      · exact L.zero
      · have h1 := z.lev L
        have h2 := L.pos h
        rw [L.zero] at h1
        omega
    · rcases move_mem.mp hm2 with rfl | ⟨hm3, ne⟩
      · show Par (moveD d l p k) p ∧ (if Des d l.id l.id then f l.id + (f p + 1) - f l.id else f l.id) = (if Des d l.id p then f p + (f p + 1) - f l.id else f p) + 1 ∧ (if Des d l.id l.id then f l.id + (f p + 1) - f l.id else f l.id) ≤ 4
        rw [if_pos .self, if_neg nd]
        have := hm l.id .self
        exact ⟨(move_par I h).mpr hp, by omega, by omega⟩
      · have u2 := L.up m hm3
        refine ⟨(move_par I h).mpr u2.1, ?_⟩
        by_cases c : Des d l.id m.parent
        · have c2 : Des d l.id m.id := .step hm3 c
          rw [if_pos c, if_pos c2]
          have h1 := c.lev L
          have h2 := hm m.id c2
          exact ⟨by omega, by omega⟩
        · have c2 : ¬ Des d l.id m.id := fun z => by
            generalize hx : m.id = x at z
            cases z with
            | self => exact ne hx
            | @step m2 hm4 q =>
              have := mem_unique I hm3 hm4 hx
              subst this
              exact c q
          rw [if_neg c, if_neg c2]
          exact u2.2
  · rcases move_mem.mp hm with rfl | ⟨hm, _⟩
    · have o := W.ok l h
      exact ⟨o.op, o.mode, o.mlen, o.mask, o.clen, o.cells⟩
    · exact W.ok m hm
/-! removing -/
def dropD (d : Doc) (n : Nat) : Doc := { d with layers := d.layers.filter fun y => !d.within n (LAYERS + 1) y.id }
theorem drop_mem {d : Doc} {f : Nat → Nat} (I : Ids d) (L : Lev d f) {n : Nat} {m : Layer} : m ∈ (dropD d n).layers ↔ m ∈ d.layers ∧ ¬ Des d n m.id := by
  show m ∈ d.layers.filter _ ↔ _
  rw [List.mem_filter]
  constructor
  · rintro ⟨a, b⟩
    refine ⟨a, fun z => ?_⟩
    have := (within_iff I L n (LAYERS + 1) m.id (by have := (L.up m a).2.2; show f m.id < 13; omega) (.inr ⟨m, a, rfl⟩)).mpr z
    rw [this] at b
    cases b
  · rintro ⟨a, b⟩
    refine ⟨a, ?_⟩
    rw [Bool.not_eq_true']
    cases e : d.within n (LAYERS + 1) m.id with
    | false => rfl
    | true => exact (b ((within_iff I L n (LAYERS + 1) m.id (by have := (L.up m a).2.2; show f m.id < 13; omega) (.inr ⟨m, a, rfl⟩)).mp e)).elim
theorem drop_par {d : Doc} {f : Nat → Nat} (I : Ids d) (L : Lev d f) {n q : Nat} (h : Par d q) (nq : ¬ Des d n q) : Par (dropD d n) q := by
  rcases h with z | ⟨m, hm, e, g⟩
  · exact .inl z
  · exact .inr ⟨m, (drop_mem I L).mpr ⟨hm, by rw [e]; exact nq⟩, e, g⟩
theorem drop_par' {d : Doc} {f : Nat → Nat} (I : Ids d) (L : Lev d f) {n q : Nat} (hn : 1 ≤ f n) (h : Par (dropD d n) q) : Par d q ∧ ¬ Des d n q := by
  rcases h with rfl | ⟨m, hm, rfl, g⟩
  · refine ⟨.inl rfl, fun z => ?_⟩
    have := z.lev L
    rw [L.zero] at this
    omega
  · obtain ⟨a, b⟩ := (drop_mem I L).mp hm
    exact ⟨.inr ⟨m, a, rfl, g⟩, b⟩
theorem wf_drop {d : Doc} (W : WF d) (n : Nat) : WF (dropD d n) := by
  obtain ⟨f, L⟩ := W.lev
  have I := W.ids
  refine ⟨W.w1, W.w6, W.h1, W.h6, Nat.le_trans (List.length_filter_le _ _) W.len, ⟨filter_ids_nodup I _, fun m hm => I.2 m ((drop_mem I L).mp hm).1⟩, fun m hm => W.nx m ((drop_mem I L).mp hm).1, W.n1, ⟨f, L.zero, fun m hm => ?_⟩, fun m hm => W.ok m ((drop_mem I L).mp hm).1⟩
  obtain ⟨a, b⟩ := (drop_mem I L).mp hm
  have u := L.up m a
  exact ⟨drop_par I L u.1 fun z => b (.step a z), u.2⟩
/-- the layers of a group that stays -/
theorem drop_kidIds {d : Doc} {f : Nat → Nat} (I : Ids d) (L : Lev d f) {n q : Nat} (nq : ¬ Des d n q) : kidIds (dropD d n) q = (kidIds d q).filter fun x => x != n := by
  unfold kidIds Doc.kids
  show ((d.layers.filter fun y => !d.within n (LAYERS + 1) y.id).filter fun l => l.parent == q).map (·.id) = _
  rw [List.filter_map, List.filter_filter, List.filter_filter]
  congr 1
  refine List.filter_congr fun m hm => ?_
  show ((m.parent == q) && !d.within n (LAYERS + 1) m.id) = ((m.id != n) && (m.parent == q))
  rw [Bool.and_comm]
  by_cases c : m.parent = q
  · rw [show (m.parent == q) = true by simpa using c, Bool.and_true, Bool.and_true]
    have w := within_iff I L n (LAYERS + 1) m.id (by have := (L.up m hm).2.2; show f m.id < 13; omega) (.inr ⟨m, hm, rfl⟩)
    by_cases e : m.id = n
    · rw [show (m.id != n) = false by simp [e]]
      have : Des d n m.id := by rw [e]; exact .self
      rw [w.mpr this]
      rfl
    · rw [show (m.id != n) = true by simp [e]]
      cases e2 : d.within n (LAYERS + 1) m.id with
      | false => rfl
      | true =>
        have z := w.mp e2
        exfalso
        generalize hx : m.id = x at z
        cases z with
        | self => exact e hx
        | @step m2 hm2 p =>
          have := mem_unique I hm hm2 hx
          subst this
          rw [c] at p
          exact nq p
  · rw [show (m.parent == q) = false by simpa using c, Bool.and_false, Bool.and_false]
theorem filter_len_sub {α : Type} (p : α → Bool) : ∀ l : List α, l.length - (l.filter fun x => !p x).length = (l.filter p).length
  | [] => rfl
  | a :: r => by
    have ih := filter_len_sub p r
    have le := List.length_filter_le (fun x => !p x) r
    cases e : p a with
    | true =>
      rw [List.filter_cons_of_neg (by simp [e]), List.filter_cons_of_pos e, List.length_cons, List.length_cons]
      omega
    | false =>
      rw [List.filter_cons_of_pos (by simp [e]), List.filter_cons_of_neg (by simp [e]), List.length_cons, List.length_cons]
      omega
theorem drop_count (d : Doc) (n : Nat) : d.layers.length - (dropD d n).layers.length = (sub d n).length := by
  unfold sub
  rw [List.length_map]
  exact filter_len_sub (fun y : Layer => d.within n (LAYERS + 1) y.id) d.layers
end LM

set_option Elab.async false
set_option linter.all false
namespace LM
open Ie02
/-! everything in a group -/
def desc (d : Doc) : Nat → Nat → List Nat
  | 0, _ => []
  | k + 1, p => (d.kids p).flatMap fun l => l.id :: desc d k l.id
def cnt (d : Doc) (k p : Nat) : Nat := (desc d k p).length
def siz (d : Doc) (k : Nat) (ls : List Layer) : Nat := (ls.map fun l => 1 + cnt d k l.id).sum
theorem cnt_succ (d : Doc) (k p : Nat) : cnt d (k + 1) p = siz d k (d.kids p) := by
  unfold cnt siz desc
  rw [List.length_flatMap]
  congr 1
  refine List.map_congr_left fun l _ => ?_
  show (l.id :: desc d k l.id).length = 1 + (desc d k l.id).length
  rw [List.length_cons]
  omega
theorem siz_cons (d : Doc) (k : Nat) (l : Layer) (ls : List Layer) : siz d k (l :: ls) = 1 + cnt d k l.id + siz d k ls := rfl
theorem siz_append (d : Doc) (k : Nat) (a b : List Layer) : siz d k (a ++ b) = siz d k a + siz d k b := by
  unfold siz
  rw [List.map_append, List.sum_append]
theorem desc_des {d : Doc} : ∀ {k p x : Nat}, x ∈ desc d k p → Des d p x ∧ ∃ l ∈ d.layers, l.id = x
  | 0, _, _, h => by cases h
  | k + 1, p, x, h => by
    obtain ⟨l, hl, hx⟩ := List.mem_flatMap.mp h
    obtain ⟨m, rfl⟩ := kids_mem.mp hl
    have st : Des d l.parent l.id := .step m .self
    rcases List.mem_cons.mp hx with rfl | hx
    · exact ⟨st, l, m, rfl⟩
    · have z := desc_des hx
      exact ⟨st.trans z.1, z.2⟩
theorem des_comp {d : Doc} (I : Ids d) {a b x : Nat} (h : Des d a x) (g : Des d b x) : Des d a b ∨ Des d b a := by
  induction h with
  | self => exact .inr g
  | @step l hl q ih =>
    generalize e : l.id = y at g
    cases g with
    | self => subst e; exact .inl (.step hl q)
    | @step m hm r =>
      have := mem_unique I hl hm e
      subst this
      exact ih r
theorem des_sib {d : Doc} {f : Nat → Nat} (I : Ids d) (L : Lev d f) {l m : Layer} (hl : l ∈ d.layers) (hm : m ∈ d.layers) (e : l.parent = m.parent) (h : Des d l.id m.id) : l = m := by
  have ul := L.up l hl
  have um := L.up m hm
  generalize g : m.id = y at h
  cases h with
  | self => exact (mem_unique I hm hl g).symm
  | @step m2 hm2 r =>
    have := mem_unique I hm hm2 g
    subst this
    have h2 := r.lev L
    rw [e] at ul
    omega
theorem desc_nodup {d : Doc} {f : Nat → Nat} (I : Ids d) (L : Lev d f) : ∀ k p : Nat, (desc d k p).Nodup
  | 0, _ => List.nodup_nil
  | k + 1, p => by
    unfold desc
    have kn := filter_ids_nodup I fun l => l.parent == p
    have ks : ∀ l ∈ d.kids p, l ∈ d.layers ∧ l.parent = p := fun l h => kids_mem.mp h
    change ((d.kids p).map (·.id)).Nodup at kn
    generalize d.kids p = ls at kn ks
    induction ls with
    | nil => exact List.nodup_nil
    | cons l r ih =>
      rw [List.map_cons, List.nodup_cons] at kn
      rw [List.flatMap_cons, List.nodup_append]
      obtain ⟨hl, el⟩ := ks l List.mem_cons_self
      have ul := L.up l hl
      refine ⟨List.nodup_cons.mpr ⟨fun h => ?_, desc_nodup I L k l.id⟩, ih kn.2 fun m hm => ks m (List.mem_cons_of_mem _ hm), fun x hx y hy e => ?_⟩
      · cases k with
        | zero => cases h
        | succ k =>
          obtain ⟨m, hm, hx⟩ := List.mem_flatMap.mp h
          obtain ⟨hm, em⟩ := kids_mem.mp hm
          have um := L.up m hm
          rw [em] at um
          rcases List.mem_cons.mp hx with e | hx
          · rw [e] at um; omega
          · have := (desc_des hx).1.lev L
            omega
      · subst e
        obtain ⟨m, hm, hy⟩ := List.mem_flatMap.mp hy
        obtain ⟨hm2, em⟩ := ks m (List.mem_cons_of_mem _ hm)
        have d1 : Des d l.id x := by
          rcases List.mem_cons.mp hx with rfl | hx
          · exact .self
          · exact (desc_des hx).1
        have d2 : Des d m.id x := by
          rcases List.mem_cons.mp hy with rfl | hy
          · exact .self
          · exact (desc_des hy).1
        have : l = m := by
          rcases des_comp I d1 d2 with h | h
          · exact des_sib I L hl hm2 (el.trans em.symm) h
          · exact (des_sib I L hm2 hl (em.trans el.symm) h).symm
        subst this
        exact kn.1 (List.mem_map_of_mem hm)
theorem cnt_le {d : Doc} {f : Nat → Nat} (I : Ids d) (L : Lev d f) (k p : Nat) : cnt d k p ≤ d.layers.length := by
  have := nodup_len (desc_nodup I L k p) (b := d.layers.map (·.id)) fun x hx => by
    obtain ⟨_, l, hl, e⟩ := desc_des hx
    exact List.mem_map.mpr ⟨l, hl, e⟩
  rw [List.length_map] at this
  exact this
/-! the stacks of a group -/
def addLast (ss : List (Layer × List Layer)) (l : Layer) : List (Layer × List Layer) := match ss with
  | [] => []
  | [(a, cs)] => [(a, cs ++ [l])]
  | a :: b :: r => a :: addLast (b :: r) l
theorem addLast_append (ss : List (Layer × List Layer)) (a : Layer) (cs : List Layer) (l : Layer) : addLast (ss ++ [(a, cs)]) l = ss ++ [(a, cs ++ [l])] := by
  induction ss with
  | nil => rfl
  | cons x r ih =>
    cases r with
    | nil => rfl
    | cons y r => exact congrArg (x :: ·) ih
def stStep (s : List (Layer × List Layer) × Bool) (l : Layer) : List (Layer × List Layer) × Bool :=
  if l.clip = true ∧ s.1 ≠ [] then if s.2 = true then (addLast s.1 l, true) else (s.1 ++ [(l, [])], s.2) else (s.1 ++ [(l, [])], l.base)
theorem st_clips_base (ss : List (Layer × List Layer)) (a : Layer) : ∀ (cs : List Layer) (bs : List Layer), (∀ c ∈ cs, c.clip = true) → cs.foldl stStep (ss ++ [(a, bs)], true) = (ss ++ [(a, bs ++ cs)], true)
  | [], bs, _ => by rw [List.append_nil]; rfl
  | c :: cs, bs, h => by
    rw [List.foldl_cons]
    have e : stStep (ss ++ [(a, bs)], true) c = (ss ++ [(a, bs ++ [c])], true) := by
      unfold stStep
      rw [if_pos ⟨h c List.mem_cons_self, by simp⟩, if_pos rfl, addLast_append]
    rw [e, st_clips_base ss a cs (bs ++ [c]) fun x hx => h x (List.mem_cons_of_mem _ hx), List.append_assoc]
    rfl
theorem st_clips_none : ∀ (cs : List Layer) (ss : List (Layer × List Layer)), ss ≠ [] → (∀ c ∈ cs, c.clip = true) → cs.foldl stStep (ss, false) = (ss ++ cs.map fun x => (x, []), false)
  | [], ss, _, _ => by rw [List.map_nil, List.append_nil]; rfl
  | c :: cs, ss, hn, h => by
    rw [List.foldl_cons]
    have e : stStep (ss, false) c = (ss ++ [(c, [])], false) := by
      unfold stStep
      rw [if_pos ⟨h c List.mem_cons_self, hn⟩, if_neg (by simp)]
    rw [e, st_clips_none cs (ss ++ [(c, [])]) (by simp) fun x hx => h x (List.mem_cons_of_mem _ hx), List.append_assoc]
    rfl
theorem takeWhile_drop {α : Type} (p : α → Bool) : ∀ l : List α, l.takeWhile p ++ l.drop (l.takeWhile p).length = l
  | [] => rfl
  | x :: r => by
    rw [List.takeWhile_cons]
    split
    · exact congrArg (x :: ·) (takeWhile_drop p r)
    · rfl
theorem drop_head {α : Type} (p : α → Bool) : ∀ (l : List α) (x : α) (r : List α), l.drop (l.takeWhile p).length = x :: r → p x = false
  | [], _, _, h => by cases h
  | y :: l, x, r, h => by
    rw [List.takeWhile_cons] at h
    cases e : p y with
    | true => rw [e, if_pos rfl] at h; exact drop_head p l x r h
    | false =>
      rw [e, if_neg (by decide)] at h
      have := (List.cons.inj h).1
      rw [← this]
      exact e
theorem runs_go : ∀ (n : Nat) (ls : List Layer) (s : List (Layer × List Layer) × Bool), ls.length ≤ n → (s.1 = [] ∨ ∀ x r, ls = x :: r → x.clip = false) → (ls.foldl stStep s).1 = s.1 ++ runs ls
  | _, [], s, _, _ => by rw [runs, List.append_nil]; rfl
  | 0, _ :: _, _, h, _ => absurd h (by simp)
  | n + 1, l :: r, s, h, hc => by
    rw [runs]
    rw [List.foldl_cons]
    have e : stStep s l = (s.1 ++ [(l, [])], l.base) := by
      unfold stStep
      refine if_neg fun z => ?_
      rcases hc with c | c
      · exact z.2 c
      · rw [c l r rfl] at z
        cases z.1
    rw [e]
    have sp := takeWhile_drop (fun x : Layer => x.clip) r
    have hd := drop_head (fun x : Layer => x.clip) r
    have cl : ∀ c ∈ r.takeWhile (fun x : Layer => x.clip), c.clip = true := fun c hc => by
      have := List.all_takeWhile (p := fun x : Layer => x.clip) (l := r)
      rw [List.all_eq_true] at this
      exact this c hc
    generalize r.takeWhile (fun x : Layer => x.clip) = cs at sp hd cl
    have hlen : (r.drop cs.length).length ≤ n := by
      rw [List.length_drop]
      rw [List.length_cons] at h
      omega
    generalize r.drop cs.length = r2 at sp hd hlen
    subst sp
    rw [List.foldl_append]
    cases b : l.base with
    | true =>
      rw [if_pos rfl, st_clips_base s.1 l cs [] cl, runs_go n r2 _ hlen (.inr hd), List.nil_append, List.append_assoc]
      rfl
    | false =>
      rw [if_neg (by decide), st_clips_none cs _ (by simp) cl, runs_go n r2 _ hlen (.inr hd)]
      simp only [List.append_assoc, List.cons_append, List.nil_append]
theorem runs_eq (ls : List Layer) : (ls.foldl stStep ([], false)).1 = runs ls := by
  rw [runs_go ls.length ls _ (Nat.le_refl _) (.inl rfl)]
  rfl
/-- what holds of the stacks: they are the layers in order -/
def flat (ss : List (Layer × List Layer)) : List Layer := ss.flatMap fun r => r.1 :: r.2
theorem flat_runs : ∀ (n : Nat) (ls : List Layer), ls.length ≤ n → flat (runs ls) = ls
  | _, [], _ => by rw [runs]; rfl
  | 0, _ :: _, h => absurd h (by simp)
  | n + 1, l :: r, h => by
    rw [runs]
    have sp := takeWhile_drop (fun x : Layer => x.clip) r
    generalize r.takeWhile (fun x : Layer => x.clip) = cs at sp
    have hlen : (r.drop cs.length).length ≤ n := by
      rw [List.length_drop]
      rw [List.length_cons] at h
      omega
    generalize r.drop cs.length = r2 at sp hlen
    subst sp
    have ih := flat_runs n r2 hlen
    have hm : flat (cs.map fun x => (x, ([] : List Layer))) = cs := by
      clear ih
      unfold flat
      induction cs with
      | nil => rfl
      | cons c cs ih2 =>
        rw [List.map_cons, List.flatMap_cons]
        rw [ih2 (by rw [List.length_cons] at h ⊢; simp only [List.length_append, List.length_cons] at h ⊢; omega)]
        rfl
    split
    · show (l :: cs) ++ flat (runs r2) = _
      rw [ih]
      rfl
    · show flat ((l, []) :: cs.map (fun x => (x, [])) ++ runs r2) = _
      unfold flat at hm ih ⊢
      rw [List.flatMap_append, List.flatMap_cons, hm, ih]
      rfl
/-! painting, by steps -/
def ownS (d : Doc) (k i : Nat) (l : Layer) : Px := match l.kind with
  | .picture => l.px i
  | .group _ => d.paint k l.id i nothing
  | .change _ => nothing
def ontoS (d : Doc) (k i : Nat) (q : Px) (x : Layer) : Px := if x.shown = false then q else match x.kind with
  | .change how => atop x.mode (x.weight i) q ⟨changed how q.c, one⟩
  | _ => atop x.mode (x.weight i) q (ownS d k i x)
def layS (d : Doc) (k i : Nat) (q : Px) (r : Layer × List Layer) : Px := if r.1.shown = false then q else match r.1.kind with
  | .change how => atop r.1.mode (r.1.weight i) q ⟨changed how q.c, one⟩
  | .group true => part (r.1.weight i) q (d.paint k r.1.id i q)
  | _ => over r.1.mode (r.1.weight i) q (r.2.foldl (ontoS d k i) (ownS d k i r.1))
theorem paint_succ (d : Doc) (k p i : Nat) (b : Px) : d.paint (k + 1) p i b = (runs (d.kids p)).foldl (layS d k i) b := rfl
/-! sizes of what is painted -/
theorem ofByte_dvd (k : Nat) : (ofByte k).d ∣ 255 := frac_d_dvd _ _
theorem px_PotO {n : Nat} {l : Layer} (h : LOk n l) (i : Nat) (y : Nat) : PotO (l.px i) y := by
  refine .inl ?_
  have q : QOk (l.cells.getD i (0, 0, 0, 0)) := by
    by_cases c : i < l.cells.length
    · rw [List.getD_eq_getElem?_getD, List.getElem?_eq_getElem c]
      exact h.cells _ (List.getElem_mem c)
    · rw [List.getD_eq_getElem?_getD, List.getElem?_eq_none (by omega)]
      exact ⟨by decide, by decide, by decide, by decide⟩
  unfold Layer.px
  generalize l.cells.getD i (0, 0, 0, 0) = q4 at q
  obtain ⟨q1, q2, q3, q5⟩ := q
  dsimp only
  split
  · exact ⟨nothing_UP, nothing_Sz _ _ _⟩
  · have le : ∀ k, (ofByte k).d ≤ 2 ^ 8 := fun k => Nat.le_trans (Nat.le_of_dvd (by decide) (ofByte_dvd k)) (by decide)
    exact ⟨⟨⟨ofByte_U q1, ofByte_U q2, ofByte_U q3⟩, ofByte_U q5⟩, le _, le _, le _, ⟨255, by decide, by decide, ofByte_dvd _, ofByte_dvd _, ofByte_dvd _⟩, le _⟩
theorem weight_ok {n : Nat} {l : Layer} (h : LOk n l) {i : Nat} (hi : i < n) : ∃ m, l.mask[i]? = some m ∧ U (frac (l.opacity * m) (255 * 255)) ∧ frac (l.opacity * m) (255 * 255) = l.weight i ∧ U (l.weight i) ∧ (l.weight i).d ≤ 2 ^ 16 := by
  have hi2 : i < l.mask.length := by rw [h.mlen]; exact hi
  refine ⟨l.mask[i], List.getElem?_eq_getElem hi2, ?_⟩
  have w := weight_vals h.op (h.mask _ (List.getElem_mem hi2))
  have e : l.weight i = (ofByte l.opacity).mul (ofByte l.mask[i]) := by
    unfold Layer.weight
    rw [List.getD_eq_getElem?_getD, List.getElem?_eq_getElem hi2]
    rfl
  rw [e, ← w.2]
  exact ⟨w.1, rfl, w.1, Nat.le_trans (Nat.le_of_dvd (by decide) (frac_d_dvd _ _)) (by decide)⟩
theorem Pot.up {p : Px} {N : Nat} (h : Pot p N) : UP p := let ⟨_, a, _⟩ := h; a.up
theorem PotP.up {p : Px} {N : Nat} (h : PotP p N) : UP p := let ⟨_, a, _⟩ := h; a.up
theorem PotO.up {p : Px} {N : Nat} (h : PotO p N) : UP p := by
  rcases h with h | h
  · exact h.1
  · exact h.up
theorem Pot.le {p : Px} {N : Nat} (h : Pot p N) : 120 ≤ N := let ⟨_, _, b⟩ := h; by omega
theorem p3 (k : Nat) : 1 ≤ 3 ^ k := Nat.pow_pos (by decide)
theorem p3s (k : Nat) : 3 * 3 ^ k = 3 ^ (1 + k) := by rw [Nat.add_comm, Nat.pow_succ, Nat.mul_comm]
theorem adj_eq (m how : Nat) {w : Frac} {q : Px} (hw : U w) (uq : UP q) : atop m w q ⟨changed how q.c, one⟩ = atopP m w q ⟨changedP how q.c, one⟩ := by
  rw [← (changed_vals how uq.c).2, (atop_vals m hw uq ⟨(changed_vals how uq.c).1, one_U⟩).2]
section
variable {d : Doc} (ok : ∀ l ∈ d.layers, LOk (d.w * d.h) l) {i : Nat} (hi : i < d.w * d.h) {k : Nat}
include ok hi
variable (hp : ∀ (p N : Nat) (b : Px), Pot b N → Pot (d.paint k p i b) (N * 3 ^ cnt d k p))
include hp
theorem own_pot {l : Layer} (hl : l ∈ d.layers) : PotO (ownS d k i l) (3 ^ cnt d k l.id) := by
  unfold ownS
  cases l.kind with
  | picture => exact px_PotO (ok l hl) i _
  | group t => exact .inr (hp _ _ _ (pot_nothing (Nat.le_refl _)))
  | change h => exact .inr (pot_nothing (by have := p3 (cnt d k l.id); omega))
theorem onto_pot {q : Px} {M : Nat} (hq : PotP q M) (hM : 120 ≤ M) {x : Layer} (hx : x ∈ d.layers) : PotP (ontoS d k i q x) (M * 3 ^ (1 + cnt d k x.id)) := by
  have z := p3 (1 + cnt d k x.id)
  obtain ⟨m, _, _, _, uw, lw⟩ := weight_ok (ok x hx) hi
  have o := own_pot ok hi hp hx
  unfold ontoS
  split
  · exact hq.mono (Nat.le_mul_of_pos_right _ z)
  · rw [← p3s]
    split
    · rw [adj_eq _ _ uw hq.up]
      exact (potP_adj _ _ uw lw hq).mono (Nat.mul_le_mul_left _ (by have := p3 (cnt d k x.id); omega))
    · rw [← (atop_vals _ uw hq.up o.up).2]
      exact pot_atop _ uw lw hq hM o (p3 _)
theorem ontos_pot : ∀ (cs : List Layer) {q : Px} {M : Nat}, PotP q M → 120 ≤ M → (∀ c ∈ cs, c ∈ d.layers) → PotP (cs.foldl (ontoS d k i) q) (M * 3 ^ siz d k cs)
  | [], q, M, hq, _, _ => by rw [show siz d k [] = 0 from rfl, Nat.pow_zero, Nat.mul_one]; exact hq
  | c :: cs, q, M, hq, hM, hc => by
    rw [List.foldl_cons, siz_cons, Nat.pow_add, ← Nat.mul_assoc]
    exact ontos_pot cs (onto_pot ok hi hp hq hM (hc c List.mem_cons_self)) (Nat.le_trans hM (Nat.le_mul_of_pos_right _ (p3 _))) fun x hx => hc x (List.mem_cons_of_mem _ hx)
theorem lay_pot {q : Px} {N : Nat} (hq : Pot q N) {r : Layer × List Layer} (h1 : r.1 ∈ d.layers) (h2 : ∀ c ∈ r.2, c ∈ d.layers) : Pot (layS d k i q r) (N * 3 ^ siz d k (r.1 :: r.2)) := by
  obtain ⟨l, cs⟩ := r
  obtain ⟨m, _, _, _, uw, lw⟩ := weight_ok (ok l h1) hi
  have o := own_pot ok hi hp h1
  have s := ontos_pot ok hi hp cs (o.potP (p3 _)) (show 120 ≤ 120 * 3 ^ cnt d k l.id by have := p3 (cnt d k l.id); omega) h2
  have z1 := p3 (siz d k (l :: cs))
  have big : 3 * 3 ^ cnt d k l.id ≤ 3 ^ siz d k (l :: cs) := by
    rw [p3s, siz_cons]
    exact Nat.pow_le_pow_right (by decide) (by omega)
  have ov : Pot (over l.mode (l.weight i) q (cs.foldl (ontoS d k i) (ownS d k i l))) (N * 3 ^ siz d k (l :: cs)) := by
    rw [← (over_vals _ uw hq.up s.up).2, siz_cons, Nat.add_assoc, ← p3s, Nat.pow_add]
    rw [Nat.mul_assoc] at s
    exact pot_over _ uw lw hq s (Nat.mul_pos (p3 _) (p3 _))
  unfold layS
  dsimp only
  dsimp only at h1 h2
  split
  · exact hq.mono (Nat.le_mul_of_pos_right _ z1)
  · split
    · rw [adj_eq _ _ uw hq.up]
      exact (pot_adj _ _ uw lw hq).mono (Nat.mul_le_mul_left _ (Nat.le_trans (show 3 ≤ 3 * 3 ^ cnt d k l.id by have := p3 (cnt d k l.id); omega) big))
    · have pr := hp l.id N q hq
      rw [← (mix_vals uw hq.up pr.up).2]
      exact (pot_mix uw lw hq pr (p3 _)).mono (Nat.mul_le_mul_left _ big)
    · exact ov
theorem lays_pot : ∀ (rs : List (Layer × List Layer)) {q : Px} {N : Nat}, Pot q N → (∀ c ∈ flat rs, c ∈ d.layers) → Pot (rs.foldl (layS d k i) q) (N * 3 ^ siz d k (flat rs))
  | [], q, N, hq, _ => by rw [show siz d k (flat []) = 0 from rfl, Nat.pow_zero, Nat.mul_one]; exact hq
  | r :: rs, q, N, hq, hc => by
    have e : flat (r :: rs) = (r.1 :: r.2) ++ flat rs := rfl
    rw [e] at hc ⊢
    rw [List.foldl_cons, siz_append, Nat.pow_add, ← Nat.mul_assoc]
    exact lays_pot rs (lay_pot ok hi hp hq (hc _ (List.mem_append_left _ List.mem_cons_self)) fun c h => hc c (List.mem_append_left _ (List.mem_cons_of_mem _ h))) fun c h => hc c (List.mem_append_right _ h)
end
theorem kids_layers {d : Doc} {p : Nat} {l : Layer} (h : l ∈ d.kids p) : l ∈ d.layers := (kids_mem.mp h).1
theorem paint_pot {d : Doc} (ok : ∀ l ∈ d.layers, LOk (d.w * d.h) l) {i : Nat} (hi : i < d.w * d.h) : ∀ (k p N : Nat) (b : Px), Pot b N → Pot (d.paint k p i b) (N * 3 ^ cnt d k p)
  | 0, p, N, b, h => by
    rw [show cnt d 0 p = 0 from rfl, Nat.pow_zero, Nat.mul_one]
    exact h
  | k + 1, p, N, b, h => by
    rw [paint_succ, cnt_succ]
    have e := flat_runs (d.kids p).length (d.kids p) (Nat.le_refl _)
    have := lays_pot ok hi (paint_pot ok hi k) (runs (d.kids p)) h (by rw [e]; exact fun c hc => kids_layers hc)
    rw [e] at this
    exact this
/-- what fits before one more layer -/
theorem fit_before {N m : Nat} (h : N * 3 ^ (1 + m) ≤ 120 * 3 ^ 12) : N ≤ 21258000 := by
  have e : (3 : Nat) ^ 12 = 531441 := by decide
  rw [e, ← p3s] at h
  have z := p3 m
  have : N * (3 * 1) ≤ N * (3 * 3 ^ m) := Nat.mul_le_mul_left _ (by omega)
  omega
end LM

set_option Elab.async false
set_option linter.all false
namespace LM
open Ie02
/-! boxes -/
def setAll {α : Type} (z : α) (ps : List Nat) (l : List α) : List α := ps.foldl (fun l i => l.set i z) l
theorem setAll_more {α : Type} (z : α) (ps : List Nat) (n : Nat) (l : List α) : setAll z (ps ++ [n]) l = (setAll z ps l).set n z := by
  unfold setAll
  rw [List.foldl_append]
  rfl
theorem setAll_len {α : Type} (z : α) : ∀ (ps : List Nat) (l : List α), (setAll z ps l).length = l.length
  | [], _ => rfl
  | p :: ps, l => by
    show (setAll z ps (l.set p z)).length = _
    rw [setAll_len z ps, List.length_set]
theorem setAll_get {α : Type} (z : α) (i : Nat) : ∀ (ps : List Nat) (l : List α), i < l.length → (setAll z ps l)[i]? = if i ∈ ps then some z else l[i]?
  | [], _, _ => by rw [if_neg (by simp)]; rfl
  | p :: ps, l, h => by
    show (setAll z ps (l.set p z))[i]? = _
    rw [setAll_get z i ps _ (by rw [List.length_set]; exact h)]
    by_cases c : i ∈ ps
    · rw [if_pos c, if_pos (List.mem_cons_of_mem _ c)]
    · rw [if_neg c, List.getElem?_set]
      by_cases e : p = i
      · subst e
        rw [if_pos rfl, if_pos h, if_pos List.mem_cons_self]
      · rw [if_neg e, if_neg (by simp; exact ⟨fun z => e z.symm, c⟩)]
def rowL (w x n r : Nat) : List Nat := (List.range n).map fun k => r * w + (x + k)
def boxL (w x y n m : Nat) : List Nat := (List.range m).flatMap fun k => rowL w x n (y + k)
def inRow (x u w : Nat) : Nat := min (x + u) w - x
def boxP (d : Doc) (x y u v : Nat) : List Nat := boxL d.w x y (inRow x u d.w) (inRow y v d.h)
theorem box_mem {d : Doc} (hw : 1 ≤ d.w) {x y u v i : Nat} : i ∈ boxP d x y u v ↔ i < d.w * d.h ∧ inBox d.w x y u v i = true := by
  unfold boxP boxL rowL inRow inBox
  simp only [List.mem_flatMap, List.mem_range, List.mem_map, Bool.and_eq_true, decide_eq_true_eq]
  constructor
  · rintro ⟨k, hk, j, hj, rfl⟩
    have hx : x + j < d.w := by omega
    have e1 : ((y + k) * d.w + (x + j)) % d.w = x + j := by rw [Nat.mul_comm, Nat.mul_add_mod, Nat.mod_eq_of_lt hx]
    have e2 : ((y + k) * d.w + (x + j)) / d.w = y + k := by rw [Nat.mul_comm, Nat.mul_add_div hw, Nat.div_eq_of_lt hx]; rfl
    rw [e1, e2]
    refine ⟨?_, by omega, by omega, by omega, by omega⟩
    have h1 : (y + k + 1) * d.w ≤ d.h * d.w := Nat.mul_le_mul_right _ (by omega)
    rw [Nat.add_mul, Nat.one_mul, Nat.mul_comm d.h] at h1
    omega
  · rintro ⟨h, a1, a2, a3, a4⟩
    have m1 := Nat.mod_lt i hw
    have m2 : i / d.w < d.h := Nat.div_lt_of_lt_mul h
    refine ⟨i / d.w - y, by omega, i % d.w - x, by omega, ?_⟩
    rw [show y + (i / d.w - y) = i / d.w by omega, show x + (i % d.w - x) = i % d.w by omega, Nat.mul_comm]
    exact Nat.div_add_mod _ _
theorem boxed_eq {α : Type} {d : Doc} (hw : 1 ≤ d.w) {x y u v : Nat} {z : α} {l : List α} (hl : l.length = d.w * d.h) : boxed d.w x y u v z l = setAll z (boxP d x y u v) l := by
  refine List.ext_getElem? fun i => ?_
  by_cases c : i < l.length
  · rw [setAll_get z i _ _ c]
    unfold boxed
    rw [List.getElem?_map, List.getElem?_zipIdx, List.getElem?_eq_getElem c]
    show some (if inBox d.w x y u v (0 + i) = true then z else l[i]) = _
    rw [Nat.zero_add]
    by_cases b : inBox d.w x y u v i = true
    · rw [if_pos b, if_pos (box_mem hw |>.mpr ⟨by omega, b⟩)]
    · rw [if_neg b, if_neg fun h => b ((box_mem hw).mp h).2]
  · rw [List.getElem?_eq_none (l := boxed d.w x y u v z l) (by unfold boxed; rw [List.length_map, List.length_zipIdx]; omega), List.getElem?_eq_none (l := setAll z (boxP d x y u v) l) (by rw [setAll_len]; omega)]
end LM

set_option Elab.async false
set_option linter.all false
set_option maxRecDepth 100000
set_option maxHeartbeats 4000000
namespace LH
open PySem PySem.Spec PyProof.Rows L2
/-! great ints: products below 2^27 bits, quotients of any size -/
structure Big (X : Cx) : Prop where
  seer : X.base.NoSeer
  tree : X.prog.given.tree = none
  stk : X.stack = X.env :: X.outer
  gen : X.env.scope.isGenerator = false
  co : X.env.scope.isCoroutine = false
  dp : X.A.depth + Builtin.pylongFrames < recursionLimit
section
variable {X : Cx}
theorem Big.room (b : Big X) {pins : List (Addr × Obj)} {σ : L2.St} {H : Hp} {s : Shared} (I : Inv X pins σ H s) : PylongRoom (model X.prog X.w) X.A s := by
  refine PylongRoom.of I.nolimit b.dp ?_
  refine SeerAt.of (env := X.env) (l := X.outer) (b.seer.keeps I.bk) b.tree ?_ b.gen b.co I.ok.blt I.ok.glob
  rw [I.ok.frames, b.stk]
theorem op_divB (b : Big X) : OpR X (binaryOp .FloorDiv) (rI (fun _ j => 0 < j) fun i j => .int (i / j)) := by
  intro pins s σ H x y v u Q I rx ry h
  obtain ⟨i, j, rfl, rfl, hc, q⟩ := h
  obtain ⟨t, rfl⟩ := rx
  obtain ⟨t', rfl⟩ := ry
  have h1 : (0 : Int) < j := hc
  refine floordiv_int (by omega) ?_ (.inr (b.room I))
  rw [Int.fdiv_eq_ediv_of_nonneg i (by omega)]
  exact ⟨.int (i / j), H, I.tok _, ⟨_, rfl⟩, q⟩
theorem op_mulB : OpR X (binaryOp .Mult) (rI IntMulOk fun i j => .int (i * j)) := opI fun _ _ _ _ _ _ _ hc q => mul_int q hc
end
theorem bits_lt {i : Int} {a : Nat} (h : i.natAbs < 2 ^ a) : Builtin.Int.intBits i ≤ a := by
  unfold Builtin.Int.intBits
  split
  · omega
  · rename_i z
    have hz : i.natAbs ≠ 0 := by simpa using z
    have := (Nat.log2_lt hz).mpr h
    omega
theorem mulOk {i j : Int} {a b : Nat} (ha : i.natAbs < 2 ^ a) (hb : j.natAbs < 2 ^ b) (h : a + b ≤ 134217728) : IntMulOk i j := by
  have h1 := bits_lt ha
  have h2 := bits_lt hb
  have e : bitsLine = 134217728 := by decide
  unfold IntMulOk
  intro z
  rw [Bool.and_eq_true] at z
  have z2 := z.2
  unfold Builtin.Int.intTooBig at z2
  have z3 := of_decide_eq_true z2
  rw [e] at z3
  omega
/-! a def of the text, at a name -/
structure DefAt (P : Program) (w : World) (K : PySem.W.Frag) (mg : Str → Option Value) (base : Heap) (CX : CXT) (k : Nat) (x : Str) (ps : List Str) (sp : Sp) : Prop where
  ex : ∃ (f : Addr) (fd : FuncData), FnOk P w K mg base CX k f fd ps sp ∧ mg x = some (.ref f) ∧ PySem.W.keepIn K (.ref f) = true ∧ Binds K fd ps []
/-- what the top has left of it -/
structure TopFn (K : PySem.W.Frag) (mg : Str → Option Value) (x qual : Str) (st : Stmt) (ps : List Str) : Prop where
  ex : ∃ (f : Addr) (fd : FuncData), Fun K x qual st f fd ∧ mg x = some (.ref f) ∧ Binds K fd ps []
/-- a method of the class at C -/
structure MetAt (P : Program) (w : World) (K : PySem.W.Frag) (mg : Str → Option Value) (base : Heap) (CX : CXT) (k : Nat) (C : Addr) (m : Str) (ps : List Str) (sp : Sp) : Prop where
  ex : ∃ (f : Addr) (fd : FuncData), FnOk P w K mg base CX k f fd ps sp ∧ Meth K C m f ∧ Binds K fd ps []
structure TopMet (K : PySem.W.Frag) (C : Addr) (x qual : Str) (st : Stmt) (ps : List Str) : Prop where
  ex : ∃ (f : Addr) (fd : FuncData), Fun K x qual st f fd ∧ Meth K C x f ∧ Binds K fd ps []
section
variable {P : Program} {w : World} {K : PySem.W.Frag} {mg : Str → Option Value} {base : Heap}
theorem TopFn.ok {x qual : Str} {st : Stmt} {N ps : List Str} {k : Nat} {sp : Sp} (F : TopFn K mg x qual st ps) (S : FnScope N ps (defScope st)) (len : ∀ vs H Q E, sp vs H Q E → vs.length = ps.length)
    (hbody : ∀ (f : Addr) (cdv : Value) (A : Around) (outer : List Env) (s : Shared) (H : Hp) (vs : List V) (Q : VK) (E : XK), Room k (A.deeper (envOfC qual (defScope st) s.heap.objs.size f cdv)) → sp vs H Q E →
      ∃ t, PSs (cxOf CX0 P w K mg base N qual (defScope st) f cdv A outer s H E).nox (defBody st) t ∧ t { nx := fun _ H' => Q .non H', rt := Q } (start N vs) H) : DefAt P w K mg base CX0 (k + 1) x ps sp := by
  obtain ⟨f, fd, hf, hm, hb⟩ := F.ex
  exact ⟨f, fd, hf.ok S len (hbody f), hm, hf.kp, hb⟩
theorem TopFn.okX {x qual : Str} {st : Stmt} {N ps : List Str} {k : Nat} {sp : Sp} (F : TopFn K mg x qual st ps) (S : FnScope N ps (defScope st)) (len : ∀ vs H Q E, sp vs H Q E → vs.length = ps.length)
    (hbody : ∀ (f : Addr) (cdv : Value) (A : Around) (outer : List Env) (s : Shared) (H : Hp) (vs : List V) (Q : VK) (E : XK), Room k (A.deeper (envOfC qual (defScope st) s.heap.objs.size f cdv)) → sp vs H Q E →
      ∃ t, PSs (cxOf (L2.CX P w) P w K mg base N qual (defScope st) f cdv A outer s H E) (defBody st) t ∧ t { nx := fun _ H' => Q .non H', rt := Q } (start N vs) H) : DefAt P w K mg base (L2.CX P w) (k + 1) x ps sp := by
  obtain ⟨f, fd, hf, hm, hb⟩ := F.ex
  exact ⟨f, fd, hf.okX S len (hbody f), hm, hf.kp, hb⟩
theorem TopMet.ok {C : Addr} {x qual : Str} {st : Stmt} {N ps : List Str} {k : Nat} {sp : Sp} (F : TopMet K C x qual st ps) (S : FnScope N ps (defScope st)) (len : ∀ vs H Q E, sp vs H Q E → vs.length = ps.length)
    (hbody : ∀ (f : Addr) (cdv : Value) (A : Around) (outer : List Env) (s : Shared) (H : Hp) (vs : List V) (Q : VK) (E : XK), Room k (A.deeper (envOfC qual (defScope st) s.heap.objs.size f cdv)) → sp vs H Q E →
      ∃ t, PSs (cxOf CX0 P w K mg base N qual (defScope st) f cdv A outer s H E).nox (defBody st) t ∧ t { nx := fun _ H' => Q .non H', rt := Q } (start N vs) H) : MetAt P w K mg base CX0 (k + 1) C x ps sp := by
  obtain ⟨f, fd, hf, hm, hb⟩ := F.ex
  exact ⟨f, fd, hf.ok S len (hbody f), hm, hb⟩
theorem TopMet.okX {C : Addr} {x qual : Str} {st : Stmt} {N ps : List Str} {k : Nat} {sp : Sp} (F : TopMet K C x qual st ps) (S : FnScope N ps (defScope st)) (len : ∀ vs H Q E, sp vs H Q E → vs.length = ps.length)
    (hbody : ∀ (f : Addr) (cdv : Value) (A : Around) (outer : List Env) (s : Shared) (H : Hp) (vs : List V) (Q : VK) (E : XK), Room k (A.deeper (envOfC qual (defScope st) s.heap.objs.size f cdv)) → sp vs H Q E →
      ∃ t, PSs (cxOf (L2.CX P w) P w K mg base N qual (defScope st) f cdv A outer s H E) (defBody st) t ∧ t { nx := fun _ H' => Q .non H', rt := Q } (start N vs) H) : MetAt P w K mg base (L2.CX P w) (k + 1) C x ps sp := by
  obtain ⟨f, fd, hf, hm, hb⟩ := F.ex
  exact ⟨f, fd, hf.okX S len (hbody f), hm, hb⟩
end
/-! calls -/
/-- the reading: the arguments, then the promise -/
def tCl (sp : Sp) (E : XK) (t : TA) : TE := fun σ H Q => t σ H fun vs H1 => sp vs H1 Q E
section
variable {X : Cx} {CX : CXT} {k : Nat} {C : Addr} {ps : List Str} {sp : Sp} {E : XK} {x m : Str} {p pos apos : Pos} {e o : Expr} {es : List Expr} {ta : TE} {t : TA}
theorem pc (G : DefAt X.prog X.w X.K X.mg X.base CX k x ps sp) (hr : Room k X.A) (hx : Passes CX X E) (ha : PA X (e :: es) t) (hg : Gl X x := by rfl)
    (hdb : (x == ("__debug__" : Str)) = false := by decide) (he : starEach (e :: es) X.env = (false, eval e X.env) :: starEach es X.env := by rfl) (hpl : (backTo pos (starEach es X.env)).any (·.1) = false := by rfl) :
    PE X (.Call (.Name x p) (e :: es) [] pos) (tCl sp E t) := by
  obtain ⟨f, fd, F, hm, hk, hb⟩ := G.ex
  refine ⟨fun pins s σ H Q I h => (pe_call F hr hg hm hk hb .nil hx ha hdb he hpl).run pins s σ H Q I ?_⟩
  unfold tCall
  unfold tCl at h
  simpa only [List.append_nil] using h
theorem pc0 (G : DefAt X.prog X.w X.K X.mg X.base CX k x ps sp) (hr : Room k X.A) (hx : Passes CX X E) (hg : Gl X x := by rfl)
    (hdb : (x == ("__debug__" : Str)) = false := by decide) : PE X (.Call (.Name x p) [] [] pos) (tCl sp E tNil) := by
  obtain ⟨f, fd, F, hm, hk, hb⟩ := G.ex
  refine ⟨fun pins s σ H Q I h => (pe_call0 F hr hg hm hk hb .nil hx hdb).run pins s σ H Q I ?_⟩
  unfold tCall
  unfold tCl at h
  simpa only [List.append_nil] using h
end
end LH

set_option Elab.async false
set_option linter.all false
set_option maxRecDepth 100000
set_option maxHeartbeats 4000000
namespace LH
open PySem PySem.Spec PyProof.Rows L2
/-- sum(t) of a tuple of ints -/
theorem cr_sumT {X : Cx} (hc : X.calm = true) : CallR X (.builtin "sum") (fun vs H Q => ∃ (a : Addr) (ns : List Int), vs = [V.ref a] ∧ SqT X.K H a (ns.map V.int) ∧ Q (.int ns.sum) H) := by
  intro pins s σ H vs us Q I r h
  obtain ⟨a, ns, rfl, hs, q⟩ := h
  obtain ⟨its, rv, hl, _⟩ := I.tuple hs
  have hi := rv.ints
  obtain ⟨xs, e⟩ := hi.allInts.items
  have hn : PySem.numsOf (intItems xs).toList = ns := by rw [← e]; exact hi.numsOf
  rw [nums_intItems] at hn
  rw [e] at hl
  rw [Vals.ref1 r]
  refine PySem.W.ktm_sumG (I.ok.hd hc) hl fun h' tk t' hk => ?_
  refine ⟨.int ns.sum, H, I.kept hk, ⟨t', ?_⟩, q⟩
  rw [PySem.preSum_eq, List.take_of_length_le (by simp), hn]
/-! places -/
def topS (i : Nat) : Stmt := PySem.Challenge.pw_layerimages_s01_answers.main.body.getD i (.Pass ⟨0, 0, 0, 0⟩)
/-- the built-in names that the program reads are no names of its own -/
structure TB (mg : Str → Option Value) : Prop where
  n_range : mg "range" = none
  n_zip : mg "zip" = none
  n_sum : mg "sum" = none
  n_len : mg "len" = none
  n_min : mg "min" = none
  n_max : mg "max" = none
  n_isinstance : mg "isinstance" = none
  n_list : mg "list" = none
  n_tuple : mg "tuple" = none
/-! fractions in the heap -/
open Ie02 (Frac)
open LM
def fracV (q : Frac) : List V := [.int q.n, .int q.d]
def FAt (K : PySem.W.Frag) (H : Hp) (v : V) (q : Frac) : Prop := ∃ a, v = .ref a ∧ SqT K H a (fracV q)
theorem Same.seqT {K : PySem.W.Frag} {H H' : Hp} {a : Addr} {xs : List V} (e : Same H H') (h : SqT K H a xs) : SqT K H' a xs := by
  rcases h with (h | ⟨o, h⟩) | h
  · exact .inl (.inl (e _ _ h))
  · exact .inl (.inr ⟨o, e _ _ h⟩)
  · exact .inr h
theorem FAt.mono {K : PySem.W.Frag} {H H' : Hp} {v : V} {q : Frac} (h : FAt K H v q) (e : Same H H') : FAt K H' v q := by
  obtain ⟨a, rfl, x⟩ := h
  exact ⟨a, rfl, Same.seqT e x⟩
theorem Same.new {H : Hp} {p : Addr} {o : HO} (h : H p = none) : Same H (upd H p o) := fun b u e => by
  rw [upd_ne (ne_of_none e h)]
  exact e
section
variable {K : PySem.W.Frag} {H : Hp} {v : V} {q : Frac} {Q : VK}
theorem rd0 (h : FAt K H v q) (k : Q (.int q.n) H) : rIxT K v (.int 0) H Q := by
  obtain ⟨a, rfl, x⟩ := h
  exact ⟨a, _, 0, _, rfl, rfl, x, rfl, k⟩
theorem rd1 (h : FAt K H v q) (k : Q (.int q.d) H) : rIxT K v (.int 1) H Q := by
  obtain ⟨a, rfl, x⟩ := h
  exact ⟨a, _, 1, _, rfl, rfl, x, rfl, k⟩
theorem FAt.made {p : Addr} (h : H p = none) (q : Frac) : FAt K (upd H p (.tup (fracV q))) (.ref p) q := ⟨p, rfl, .of upd_same⟩
end
theorem mulSmall {i j : Int} (h : -(2 ^ 64) < i ∧ i < 2 ^ 64) : IntMulOk i j := .of_left (intBits_le_64 h.1 h.2)
def MOk (i j : Nat) : Prop := IntMulOk (i : Int) (j : Int)
def spGcd : Sp := fun vs H Q _ => ∃ a b : Nat, vs = [.int a, .int b] ∧ Q (.int (Nat.gcd a b : Nat)) H
def spRatio (K : PySem.W.Frag) : Sp := fun vs H Q _ => ∃ n d : Nat, vs = [.int n, .int d] ∧ 0 < d ∧ ∀ v H', Same H H' → FAt K H' v (Ie02.frac n d) → Q v H'
def spF2 (K : PySem.W.Frag) (f : Frac → Frac → Frac) (pre : Frac → Frac → Prop) : Sp := fun vs H Q _ => ∃ v u a b, vs = [v, u] ∧ FAt K H v a ∧ FAt K H u b ∧ pre a b ∧ ∀ z H', Same H H' → FAt K H' z (f a b) → Q z H'
def spF1 (K : PySem.W.Frag) (f : Frac → Frac) (pre : Frac → Prop) : Sp := fun vs H Q _ => ∃ v a, vs = [v] ∧ FAt K H v a ∧ pre a ∧ ∀ z H', Same H H' → FAt K H' z (f a) → Q z H'
def spT2 (K : PySem.W.Frag) (f : Frac → Frac → Bool) (pre : Frac → Frac → Prop) : Sp := fun vs H Q _ => ∃ v u a b, vs = [v, u] ∧ FAt K H v a ∧ FAt K H u b ∧ pre a b ∧ Q (.bl (f a b)) H
def spT1 (K : PySem.W.Frag) (f : Frac → Bool) : Sp := fun vs H Q _ => ∃ v a, vs = [v] ∧ FAt K H v a ∧ Q (.bl (f a)) H
theorem len2 {vs : List V} {a b : V} (h : vs = [a, b]) : vs.length = 2 := by rw [h]; rfl
section
variable {P : Program} {w : World} {K : PySem.W.Frag} {mg : Str → Option Value} {base : Heap}
theorem big_of {X : Cx} {j : Nat} (hs : X.base.NoSeer) (ht : X.prog.given.tree = none) (hr : Room j X.A) (hj : 34 ≤ j) (h1 : X.stack = X.env :: X.outer) (h2 : X.env.scope.isGenerator = false) (h3 : X.env.scope.isCoroutine = false) : Big X :=
  ⟨hs, ht, h1, h2, h3, by have := hr.dp; show _ + 100 < _; omega⟩
abbrev s_greatest_divisor : Stmt := topS 15
abbrev N_greatest_divisor : List Str := ["one", "other", "rest"]
abbrev P_greatest_divisor : List Str := ["one", "other"]
theorem sc_greatest_divisor : FnScope N_greatest_divisor P_greatest_divisor (defScope s_greatest_divisor) := ⟨rfl, rfl, rfl, by decide +kernel, rfl, by decide +kernel, by decide +kernel⟩
theorem d_greatest_divisor (F : TopFn K mg "greatest_divisor" "greatest_divisor" s_greatest_divisor P_greatest_divisor) : DefAt P w K mg base CX0 36 "greatest_divisor" P_greatest_divisor spGcd := by
  refine F.ok sc_greatest_divisor (fun vs H Q E h => ?_) (fun f cdv A outer s H vs Q E hr h => ?_)
  · obtain ⟨a, b, rfl, _⟩ := h; rfl
  obtain ⟨a, b, rfl, q⟩ := h
  have nd := sc_greatest_divisor.nd
  refine ⟨_, (pss_cons (ps_while PassesOwn.never (pt_cmpR op_ne (pv 1) pe_int (nomark _)) (pss_cons (ps_set (i := 2) nd rfl (Or.inl rfl) (pe_op op_mod (pv 0) (pv 1))) (pss_cons (ps_set (i := 0) nd rfl (Or.inl rfl) (pv 1)) (pss_one (ps_set (i := 1) nd rfl (Or.inl rfl) (pv 2)))))) (pss_one (ps_ret (pv 0)))), ?_⟩
  refine ⟨fun m σ H' => ∃ (x y : Nat) (z : Option V), m = y ∧ σ = [some (.int x), some (.int y), z] ∧ H' = H ∧ Nat.gcd x y = Nat.gcd a b, ⟨b, a, b, none, rfl, rfl, rfl, rfl⟩, ?_⟩
  rintro m σ H' ⟨x, y, z, rfl, rfl, rfl, hg⟩
  refine ⟨_, rfl, rfl, _, rfl, ?_⟩
  by_cases c : m = 0
  · subst c
    refine if_neg (by simp) |>.mpr ?_
    refine ⟨_, rfl, ?_⟩
    rw [Nat.gcd_zero_right] at hg
    subst hg
    exact q
  · refine (if_pos (by simp; omega)).mpr ?_
    refine ⟨fun σ H'' => ∃ (x' y' : Nat) (z' : Option V), σ = [some (.int x'), some (.int y'), z'] ∧ y' < m ∧ H'' = H' ∧ Nat.gcd x' y' = Nat.gcd a b, ?_, ?_⟩
    · rintro σ' H'' ⟨x', y', z', rfl, hl, rfl, hg'⟩
      exact ⟨y', hl, x', y', z', rfl, rfl, rfl, hg'⟩
    · refine ⟨_, rfl, _, rfl, _, _, rfl, rfl, ?_, _, rfl, _, rfl, ?_⟩
      · show (0 : Int) < m
        omega
      · refine ⟨m, x % m, _, rfl, Nat.mod_lt _ (Nat.pos_of_ne_zero c), rfl, ?_⟩
        rw [← hg, Nat.gcd_comm x m, Nat.gcd_comm m (x % m), ← Nat.gcd_rec m x]
abbrev s_ratio : Stmt := topS 16
abbrev N_ratio : List Str := ["top", "bottom", "divisor"]
abbrev P_ratio : List Str := ["top", "bottom"]
theorem sc_ratio : FnScope N_ratio P_ratio (defScope s_ratio) := ⟨rfl, rfl, rfl, by decide +kernel, rfl, by decide +kernel, by decide +kernel⟩
theorem d_ratio (hs : base.NoSeer) (ht : P.given.tree = none) (F : TopFn K mg "ratio" "ratio" s_ratio P_ratio) (G_greatest_divisor : DefAt P w K mg base CX0 36 "greatest_divisor" P_greatest_divisor spGcd) : DefAt P w K mg base CX0 37 "ratio" P_ratio (spRatio K) := by
  refine F.ok sc_ratio (fun vs H Q E h => ?_) (fun f cdv A outer s H vs Q E hr h => ?_)
  · obtain ⟨a, b, rfl, _⟩ := h; rfl
  obtain ⟨n, d, rfl, hd, q⟩ := h
  have nd := sc_ratio.nd
  refine ⟨_, (pss_cons (ps_set (i := 2) nd rfl (Or.inl rfl) (pc G_greatest_divisor (hr.mono (by omega)) pass0 (pa_cons (pv 0) (pa_cons (pv 1) pa_nil)))) (pss_one (ps_ret (pe_tup (pa_cons (pe_op (op_divB (big_of hs ht hr (by decide) rfl rfl rfl)) (pv 0) (pv 2)) (pa_cons (pe_op (op_divB (big_of hs ht hr (by decide) rfl rfl rfl)) (pv 1) (pv 2)) pa_nil)))))), ?_⟩
  have hg : (0 : Int) < (Nat.gcd n d : Nat) := by have := Nat.gcd_pos_of_pos_right n hd; omega
  refine ⟨_, rfl, _, rfl, n, d, rfl, ?_⟩
  refine ⟨_, rfl, _, rfl, _, _, rfl, rfl, hg, _, rfl, _, rfl, _, _, rfl, rfl, hg, (by show 2 ≤ sizeLine; decide), fun p hp => ?_⟩
  exact q _ _ (Same.new hp) (FAt.made hp (Ie02.frac n d))
abbrev s_times : Stmt := topS 19
abbrev N_times : List Str := ["one", "other"]
abbrev P_times : List Str := ["one", "other"]
theorem sc_times : FnScope N_times P_times (defScope s_times) := ⟨rfl, rfl, rfl, by decide +kernel, rfl, by decide +kernel, by decide +kernel⟩
theorem d_times (G_ratio : DefAt P w K mg base CX0 37 "ratio" P_ratio (spRatio K)) (F : TopFn K mg "times" "times" s_times P_times) : DefAt P w K mg base CX0 38 "times" P_times (spF2 K Frac.mul fun a b => MOk a.n b.n ∧ MOk a.d b.d ∧ 0 < a.d ∧ 0 < b.d) := by
  refine F.ok sc_times (fun vs H Q E h => ?_) (fun f cdv A outer s H vs Q E hr h => ?_)
  · obtain ⟨_, _, _, _, rfl, _⟩ := h; rfl
  obtain ⟨_, _, a, b, rfl, ⟨pa, rfl, hv⟩, ⟨pb, rfl, hu⟩, ⟨m1, m2, p1, p2⟩, q⟩ := h
  have nd := sc_times.nd
  refine ⟨_, (pss_one (ps_ret (pc G_ratio (hr.mono (by omega)) pass0 (pa_cons (pe_op op_mulB (pe_ix ix_tup (pv 0) pe_int (fun _ _ => rfl)) (pe_ix ix_tup (pv 1) pe_int (fun _ _ => rfl))) (pa_cons (pe_op op_mulB (pe_ix ix_tup (pv 0) pe_int (fun _ _ => rfl)) (pe_ix ix_tup (pv 1) pe_int (fun _ _ => rfl))) pa_nil))))), ?_⟩
  exact ⟨_, rfl, _, _, 0, _, rfl, rfl, hv, rfl, _, rfl, _, _, 0, _, rfl, rfl, hu, rfl, _, _, rfl, rfl, m1, ⟨_, rfl, _, _, 1, _, rfl, rfl, hv, rfl, _, rfl, _, _, 1, _, rfl, rfl, hu, rfl, _, _, rfl, rfl, m2, ⟨a.n * b.n, a.d * b.d, rfl, Nat.mul_pos p1 p2, fun z H' s h => q z H' s h⟩⟩⟩
abbrev s_plus : Stmt := topS 17
abbrev N_plus : List Str := ["one", "other"]
abbrev P_plus : List Str := ["one", "other"]
theorem sc_plus : FnScope N_plus P_plus (defScope s_plus) := ⟨rfl, rfl, rfl, by decide +kernel, rfl, by decide +kernel, by decide +kernel⟩
theorem d_plus (G_ratio : DefAt P w K mg base CX0 37 "ratio" P_ratio (spRatio K)) (F : TopFn K mg "plus" "plus" s_plus P_plus) : DefAt P w K mg base CX0 38 "plus" P_plus (spF2 K Frac.add fun a b => MOk a.n b.d ∧ MOk b.n a.d ∧ MOk a.d b.d ∧ 0 < a.d ∧ 0 < b.d) := by
  refine F.ok sc_plus (fun vs H Q E h => ?_) (fun f cdv A outer s H vs Q E hr h => ?_)
  · obtain ⟨_, _, _, _, rfl, _⟩ := h; rfl
  obtain ⟨_, _, a, b, rfl, ⟨pa, rfl, hv⟩, ⟨pb, rfl, hu⟩, ⟨m1, m2, m3, p1, p2⟩, q⟩ := h
  have nd := sc_plus.nd
  refine ⟨_, (pss_one (ps_ret (pc G_ratio (hr.mono (by omega)) pass0 (pa_cons (pe_op op_add (pe_op op_mulB (pe_ix ix_tup (pv 0) pe_int (fun _ _ => rfl)) (pe_ix ix_tup (pv 1) pe_int (fun _ _ => rfl))) (pe_op op_mulB (pe_ix ix_tup (pv 1) pe_int (fun _ _ => rfl)) (pe_ix ix_tup (pv 0) pe_int (fun _ _ => rfl)))) (pa_cons (pe_op op_mulB (pe_ix ix_tup (pv 0) pe_int (fun _ _ => rfl)) (pe_ix ix_tup (pv 1) pe_int (fun _ _ => rfl))) pa_nil))))), ?_⟩
  exact ⟨_, rfl, _, _, 0, _, rfl, rfl, hv, rfl, _, rfl, _, _, 1, _, rfl, rfl, hu, rfl, _, _, rfl, rfl, m1, ⟨_, rfl, _, _, 0, _, rfl, rfl, hu, rfl, _, rfl, _, _, 1, _, rfl, rfl, hv, rfl, _, _, rfl, rfl, m2, ⟨_, _, rfl, rfl, ⟨_, rfl, _, _, 1, _, rfl, rfl, hv, rfl, _, rfl, _, _, 1, _, rfl, rfl, hu, rfl, _, _, rfl, rfl, m3, ⟨a.n * b.d + b.n * a.d, a.d * b.d, rfl, Nat.mul_pos p1 p2, fun z H' s h => q z H' s h⟩⟩⟩⟩⟩
abbrev s_minus : Stmt := topS 18
abbrev N_minus : List Str := ["one", "other"]
abbrev P_minus : List Str := ["one", "other"]
theorem sc_minus : FnScope N_minus P_minus (defScope s_minus) := ⟨rfl, rfl, rfl, by decide +kernel, rfl, by decide +kernel, by decide +kernel⟩
theorem d_minus (G_ratio : DefAt P w K mg base CX0 37 "ratio" P_ratio (spRatio K)) (F : TopFn K mg "minus" "minus" s_minus P_minus) : DefAt P w K mg base CX0 38 "minus" P_minus (spF2 K Frac.sub fun a b => MOk a.n b.d ∧ MOk b.n a.d ∧ MOk a.d b.d ∧ 0 < a.d ∧ 0 < b.d ∧ b.n * a.d ≤ a.n * b.d) := by
  refine F.ok sc_minus (fun vs H Q E h => ?_) (fun f cdv A outer s H vs Q E hr h => ?_)
  · obtain ⟨_, _, _, _, rfl, _⟩ := h; rfl
  obtain ⟨_, _, a, b, rfl, ⟨pa, rfl, hv⟩, ⟨pb, rfl, hu⟩, ⟨m1, m2, m3, p1, p2, hl⟩, q⟩ := h
  have nd := sc_minus.nd
  refine ⟨_, (pss_one (ps_ret (pc G_ratio (hr.mono (by omega)) pass0 (pa_cons (pe_op op_sub (pe_op op_mulB (pe_ix ix_tup (pv 0) pe_int (fun _ _ => rfl)) (pe_ix ix_tup (pv 1) pe_int (fun _ _ => rfl))) (pe_op op_mulB (pe_ix ix_tup (pv 1) pe_int (fun _ _ => rfl)) (pe_ix ix_tup (pv 0) pe_int (fun _ _ => rfl)))) (pa_cons (pe_op op_mulB (pe_ix ix_tup (pv 0) pe_int (fun _ _ => rfl)) (pe_ix ix_tup (pv 1) pe_int (fun _ _ => rfl))) pa_nil))))), ?_⟩
  refine ⟨_, rfl, _, _, 0, _, rfl, rfl, hv, rfl, _, rfl, _, _, 1, _, rfl, rfl, hu, rfl, _, _, rfl, rfl, m1, ⟨_, rfl, _, _, 0, _, rfl, rfl, hu, rfl, _, rfl, _, _, 1, _, rfl, rfl, hv, rfl, _, _, rfl, rfl, m2, ⟨_, _, rfl, rfl, ⟨_, rfl, _, _, 1, _, rfl, rfl, hv, rfl, _, rfl, _, _, 1, _, rfl, rfl, hu, rfl, _, _, rfl, rfl, m3, ⟨a.n * b.d - b.n * a.d, a.d * b.d, ?_, Nat.mul_pos p1 p2, fun z H' s h => q z H' s h⟩⟩⟩⟩⟩
  rw [Int.natCast_sub hl]
  rfl
abbrev s_complement : Stmt := topS 20
abbrev N_complement : List Str := ["one"]
abbrev P_complement : List Str := ["one"]
theorem sc_complement : FnScope N_complement P_complement (defScope s_complement) := ⟨rfl, rfl, rfl, by decide +kernel, rfl, by decide +kernel, by decide +kernel⟩
theorem d_complement (F : TopFn K mg "complement" "complement" s_complement P_complement) : DefAt P w K mg base CX0 38 "complement" P_complement (spF1 K compl fun a => a.n ≤ a.d) := by
  refine F.ok sc_complement (fun vs H Q E h => ?_) (fun f cdv A outer s H vs Q E hr h => ?_)
  · obtain ⟨_, _, rfl, _⟩ := h; rfl
  obtain ⟨_, a, rfl, ⟨pa, rfl, hv⟩, hl, q⟩ := h
  have nd := sc_complement.nd
  refine ⟨_, (pss_one (ps_ret (pe_tup (pa_cons (pe_op op_sub (pe_ix ix_tup (pv 0) pe_int (fun _ _ => rfl)) (pe_ix ix_tup (pv 0) pe_int (fun _ _ => rfl))) (pa_cons (pe_ix ix_tup (pv 0) pe_int (fun _ _ => rfl)) pa_nil))))), ?_⟩
  refine ⟨_, rfl, _, _, 1, _, rfl, rfl, hv, rfl, _, rfl, _, _, 0, _, rfl, rfl, hv, rfl, _, _, rfl, rfl, ⟨_, rfl, _, _, 1, _, rfl, rfl, hv, rfl, (by show 2 ≤ sizeLine; decide), fun p hp => ?_⟩⟩
  refine q _ _ (Same.new hp) ?_
  have e : [V.int ((a.d : Int) - (a.n : Int)), V.int (a.d : Int)] = fracV (compl a) := by
    show _ = [V.int ((a.d - a.n : Nat) : Int), V.int (a.d : Int)]
    rw [Int.natCast_sub hl]
  rw [e]
  exact FAt.made hp _
abbrev s_is_at_most : Stmt := topS 21
abbrev N_is_at_most : List Str := ["one", "other"]
abbrev P_is_at_most : List Str := ["one", "other"]
theorem sc_is_at_most : FnScope N_is_at_most P_is_at_most (defScope s_is_at_most) := ⟨rfl, rfl, rfl, by decide +kernel, rfl, by decide +kernel, by decide +kernel⟩
theorem d_is_at_most (F : TopFn K mg "is_at_most" "is_at_most" s_is_at_most P_is_at_most) : DefAt P w K mg base CX0 38 "is_at_most" P_is_at_most (spT2 K Frac.le fun a b => MOk a.n b.d ∧ MOk b.n a.d) := by
  refine F.ok sc_is_at_most (fun vs H Q E h => ?_) (fun f cdv A outer s H vs Q E hr h => ?_)
  · obtain ⟨_, _, _, _, rfl, _⟩ := h; rfl
  obtain ⟨_, _, a, b, rfl, ⟨pa, rfl, hv⟩, ⟨pb, rfl, hu⟩, ⟨m1, m2⟩, q⟩ := h
  have nd := sc_is_at_most.nd
  refine ⟨_, (pss_one (ps_ret (pe_cmpR op_le (pe_op op_mulB (pe_ix ix_tup (pv 0) pe_int (fun _ _ => rfl)) (pe_ix ix_tup (pv 1) pe_int (fun _ _ => rfl))) (pe_op op_mulB (pe_ix ix_tup (pv 1) pe_int (fun _ _ => rfl)) (pe_ix ix_tup (pv 0) pe_int (fun _ _ => rfl))) (nomark _)))), ?_⟩
  refine ⟨_, rfl, _, _, 0, _, rfl, rfl, hv, rfl, _, rfl, _, _, 1, _, rfl, rfl, hu, rfl, _, _, rfl, rfl, m1, ⟨_, rfl, _, _, 0, _, rfl, rfl, hu, rfl, _, rfl, _, _, 1, _, rfl, rfl, hv, rfl, _, _, rfl, rfl, m2, ⟨_, _, rfl, rfl, ?_⟩⟩⟩
  have e : decide ((a.n : Int) * (b.d : Int) ≤ (b.n : Int) * (a.d : Int)) = Frac.le a b := by
    unfold Frac.le
    rw [← Int.natCast_mul, ← Int.natCast_mul]
    simp only [Int.ofNat_le]
  rw [← e] at q
  exact q
abbrev s_is_at_most_half : Stmt := topS 22
abbrev N_is_at_most_half : List Str := ["one"]
abbrev P_is_at_most_half : List Str := ["one"]
theorem sc_is_at_most_half : FnScope N_is_at_most_half P_is_at_most_half (defScope s_is_at_most_half) := ⟨rfl, rfl, rfl, by decide +kernel, rfl, by decide +kernel, by decide +kernel⟩
theorem d_is_at_most_half (F : TopFn K mg "is_at_most_half" "is_at_most_half" s_is_at_most_half P_is_at_most_half) : DefAt P w K mg base CX0 38 "is_at_most_half" P_is_at_most_half (spT1 K fun a => decide (2 * a.n ≤ a.d)) := by
  refine F.ok sc_is_at_most_half (fun vs H Q E h => ?_) (fun f cdv A outer s H vs Q E hr h => ?_)
  · obtain ⟨_, _, rfl, _⟩ := h; rfl
  obtain ⟨_, a, rfl, ⟨pa, rfl, hv⟩, q⟩ := h
  have nd := sc_is_at_most_half.nd
  refine ⟨_, (pss_one (ps_ret (pe_cmpR op_le (pe_op op_mulB pe_int (pe_ix ix_tup (pv 0) pe_int (fun _ _ => rfl))) (pe_ix ix_tup (pv 0) pe_int (fun _ _ => rfl)) (nomark _)))), ?_⟩
  refine ⟨_, rfl, _, _, 0, _, rfl, rfl, hv, rfl, _, _, rfl, rfl, mulSmall (by decide), ⟨_, rfl, _, _, 1, _, rfl, rfl, hv, rfl, _, _, rfl, rfl, ?_⟩⟩
  have e : decide ((2 : Int) * (a.n : Int) ≤ (a.d : Int)) = decide (2 * a.n ≤ a.d) := by
    rw [show (2 : Int) * (a.n : Int) = ((2 * a.n : Nat) : Int) from rfl]
    simp only [Int.ofNat_le]
  have q : Q (V.bl (decide (2 * a.n ≤ a.d))) H := q
  rw [← e] at q
  exact q
/-! the mean -/
abbrev FsAt (K : PySem.W.Frag) (H : Hp) (xs : List V) (qs : List Frac) : Prop := Paired (FAt K H) xs qs
theorem Paired.at {α β : Type} {F : α → β → Prop} : ∀ {xs : List α} {ys : List β} {i : Nat} {x : α}, Paired F xs ys → xs[i]? = some x → ∃ y, ys[i]? = some y ∧ F x y
  | _, _, _, _, .nil, e => by simp at e
  | _, _, 0, _, .cons r _, e => by simp at e; subst e; exact ⟨_, rfl, r⟩
  | _, _, i + 1, x, .cons _ t, e => by
    obtain ⟨u, h1, h2⟩ := Paired.at (i := i) (x := x) t (by simpa using e)
    exact ⟨u, by simpa using h1, h2⟩
theorem take_more {α : Type} {l : List α} {i : Nat} {x : α} (h : l[i]? = some x) : l.take (i + 1) = l.take i ++ [x] := by
  rw [List.take_add_one, h]
  rfl
theorem lcm_more {qs : List Frac} {i : Nat} {q : Frac} (h : qs[i]? = some q) : lcmAll (qs.take (i + 1)) 1 = lcmAll (qs.take i) 1 / Nat.gcd (lcmAll (qs.take i) 1) q.d * q.d := by
  unfold lcmAll
  rw [take_more h, List.foldl_append]
  rfl
theorem top_more {b : Nat} {ps : List (Nat × Frac)} {i : Nat} {p : Nat × Frac} (h : ps[i]? = some p) : topAll b (ps.take (i + 1)) 0 = topAll b (ps.take i) 0 + p.1 * p.2.n * (b / p.2.d) := by
  unfold topAll
  rw [take_more h, List.foldl_append]
  rfl
theorem lcm_take_dvd {qs : List Frac} (g : ∀ q ∈ qs, Good q) (i : Nat) : lcmAll (qs.take i) 1 ∣ lcmAll qs 1 := by
  refine lcmAll_least Nat.one_pos (fun v hv => g v (List.mem_of_mem_take hv)) (Nat.one_dvd _) fun v hv => (lcmAll_dvd Nat.one_pos g).2 v (List.mem_of_mem_take hv)
/-- what is asked of weights and values: sizes -/
structure MeanOk (ws : List Nat) (qs : List Frac) : Prop where
  len : ws.length = qs.length
  pos : 0 < ws.sum
  good : ∀ q ∈ qs, Good q ∧ q.n ≤ q.d
  size : ∃ W V M : Nat, ws.sum < 2 ^ W ∧ (∀ q ∈ qs, q.d < 2 ^ V) ∧ lcmAll qs 1 < 2 ^ M ∧ W + V + M ≤ 134217728
theorem natLt {a b : Nat} (h : a < 2 ^ b) : (a : Int).natAbs < 2 ^ b := by rw [Int.natAbs_natCast]; exact h
theorem MOk.of {i j a b : Nat} (h1 : i < 2 ^ a) (h2 : j < 2 ^ b) (h : a + b ≤ 134217728) : MOk i j := mulOk (natLt h1) (natLt h2) h
theorem le_sum_of {ws : List Nat} {x : Nat} (h : x ∈ ws) : x ≤ ws.sum := by
  induction ws with
  | nil => cases h
  | cons a r ih =>
    rw [List.sum_cons]
    rcases List.mem_cons.mp h with rfl | h
    · omega
    · have := ih h; omega
theorem sum_cast (ws : List Nat) : (ws.map (fun n : Nat => (n : Int))).sum = ((ws.sum : Nat) : Int) := by
  induction ws with
  | nil => rfl
  | cons a r ih => rw [List.map_cons, List.sum_cons, List.sum_cons, ih]; rfl
def wV (ws : List Nat) : List V := (ws.map (fun n : Nat => (n : Int))).map V.int
def spMean (K : PySem.W.Frag) : Sp := fun vs H Q _ => ∃ a b ws xs qs, vs = [.ref a, .ref b] ∧ SqT K H a (wV ws) ∧ SqT K H b xs ∧ FsAt K H xs qs ∧ MeanOk ws qs ∧ ∀ z H', Same H H' → FAt K H' z (mean ws qs) → Q z H'
theorem lt_mul_pow {a b i j : Nat} (h1 : a < 2 ^ i) (h2 : b < 2 ^ j) : a * b < 2 ^ (i + j) := by
  rw [Nat.pow_add]
  exact Nat.mul_lt_mul'' h1 h2
abbrev s_mean : Stmt := topS 23
abbrev N_mean : List Str := ["weights", "values", "bottom", "value", "top", "weight"]
abbrev P_mean : List Str := ["weights", "values"]
theorem sc_mean : FnScope N_mean P_mean (defScope s_mean) := ⟨rfl, rfl, rfl, by decide +kernel, rfl, by decide +kernel, by decide +kernel⟩
theorem d_mean (hs : base.NoSeer) (ht : P.given.tree = none) (T : TB mg) (G_greatest_divisor : DefAt P w K mg base CX0 36 "greatest_divisor" P_greatest_divisor spGcd) (G_ratio : DefAt P w K mg base CX0 37 "ratio" P_ratio (spRatio K)) (F : TopFn K mg "mean" "mean" s_mean P_mean) : DefAt P w K mg base CX0 38 "mean" P_mean (spMean K) := by
  refine F.ok sc_mean (fun vs H Q E h => ?_) (fun f cdv A outer s H vs Q E hr h => ?_)
  · obtain ⟨_, _, _, _, _, rfl, _⟩ := h; rfl
  obtain ⟨a, b, ws, xs, qs, rfl, ha, hb, hx, ok, q⟩ := h
  have nd := sc_mean.nd
  obtain ⟨W, Vb, M, w1, v1, l1, tot⟩ := ok.size
  have gg : ∀ v ∈ qs, Good v := fun v hv => (ok.good v hv).1
  have lpos := fun i => lcmAll_pos (vs := qs.take i) Nat.one_pos fun v hv => gg v (List.mem_of_mem_take hv)
  have lle : ∀ i, lcmAll (qs.take i) 1 < 2 ^ M := fun i => Nat.lt_of_le_of_lt (Nat.le_of_dvd (lcmAll_pos Nat.one_pos gg) (lcm_take_dvd gg i)) l1
  refine ⟨_, (pss_cons (ps_set (i := 2) nd rfl (Or.inl rfl) pe_int) (pss_cons (ps_for PassesOwn.never rfl (pi_tup (pv 1)) (pg_name (i := 3) nd rfl (Or.inl rfl)) (pss_one (ps_set (i := 2) nd rfl (Or.inl rfl) (pe_op op_mulB (pe_op (op_divB (big_of hs ht hr (by decide) rfl rfl rfl)) (pv 2) (pc G_greatest_divisor (hr.mono (by omega)) pass0 (pa_cons (pv 2) (pa_cons (pe_ix ix_tup (pv 3) pe_int (fun _ _ => rfl)) pa_nil)))) (pe_ix ix_tup (pv 3) pe_int (fun _ _ => rfl)))))) (pss_cons (ps_set (i := 4) nd rfl (Or.inl rfl) pe_int) (pss_cons (ps_for PassesOwn.never rfl (RZ.pi_zipA (by rfl) T.n_zip (pa_cons (pv 0) (pa_cons (pv 1) pa_nil))) (pg_tup rfl (pgs_cons (pg_name (i := 5) nd rfl (Or.inl rfl)) (pgs_cons (pg_name (i := 3) nd rfl (Or.inl rfl)) pgs_nil))) (pss_one (ps_set (i := 4) nd rfl (Or.inl rfl) (pe_op op_add (pv 4) (pe_op op_mulB (pe_op op_mulB (pv 5) (pe_ix ix_tup (pv 3) pe_int (fun _ _ => rfl))) (pe_op (op_divB (big_of hs ht hr (by decide) rfl rfl rfl)) (pv 2) (pe_ix ix_tup (pv 3) pe_int (fun _ _ => rfl)))))))) (pss_one (ps_ret (pc G_ratio (hr.mono (by omega)) pass0 (pa_cons (pv 4) (pa_cons (pe_op op_mulB (pe_callB (cr_sumT rfl) (by rfl) T.n_sum (by decide +kernel) (pa_cons (pv 0) pa_nil)) (pv 2)) pa_nil))))))))), ?_⟩
  refine ⟨_, rfl, b, rfl, ⟨xs, hb⟩, for_tup (K := K) (a := b) (xs := xs) (fun i σ H' => H' = H ∧ ∃ z, σ = [some (.ref a), some (.ref b), some (.int (lcmAll (qs.take i) 1 : Nat)), z, none, none]) ⟨rfl, none, rfl⟩ (fun i σ H' _ h => by rw [h.1]; exact hb) ?_ ?_⟩
  · rintro i x σ H' hi ⟨rfl, z, rfl⟩
    obtain ⟨v, hv, p, rfl, hp⟩ := Paired.at hx hi
    have hm := List.mem_of_getElem? hv
    have gp : 0 < Nat.gcd (lcmAll (qs.take i) 1) v.d := Nat.gcd_pos_of_pos_left _ (lpos i)
    refine ⟨_, rfl, _, rfl, _, rfl, _, _, 1, _, rfl, rfl, hp, rfl, lcmAll (qs.take i) 1, v.d, rfl, _, _, rfl, rfl, (by show (0 : Int) < _; omega), _, rfl, _, _, 1, _, rfl, rfl, hp, rfl, _, _, rfl, rfl, ?_, rfl, some (.ref p), ?_⟩
    · exact MOk.of (Nat.lt_of_le_of_lt (Nat.div_le_self _ _) (lle i)) (v1 v hm) (by omega)
    · rw [lcm_more hv]
      rfl
  · rintro σ H' ⟨rfl, z, rfl⟩
    have e0 : qs.take xs.length = qs := by rw [hx.length]; exact List.take_length
    rw [e0]
    have hl : (wV ws).length = xs.length := by unfold wV; rw [List.length_map, List.length_map, ok.len, hx.length]
    refine ⟨_, rfl, _, rfl, a, b, wV ws, xs, rfl, .inr ⟨ha, hb, ?_⟩⟩
    refine RZ.for_zipT hl (fun i σ H'' => Same H' H'' ∧ ∃ z y, σ = [some (.ref a), some (.ref b), some (.int (lcmAll qs 1 : Nat)), z, some (.int (topAll (lcmAll qs 1) ((ws.zip qs).take i) 0 : Nat)), y]) ⟨Same.refl _, _, none, rfl⟩ (fun i σ H'' h => ⟨Same.seqT h.1 ha, Same.seqT h.1 hb⟩) ?_ ?_
    · rintro i x y t σ H'' hi hj ⟨sm, z, u, rfl⟩ ht
      obtain ⟨v, hv, p, rfl, hp⟩ := Paired.at hx hj
      have hm := List.mem_of_getElem? hv
      obtain ⟨n, hn, rfl⟩ : ∃ n : Nat, ws[i]? = some n ∧ x = V.int n := by
        unfold wV at hi
        rw [List.getElem?_map, List.getElem?_map] at hi
        cases e : ws[i]? with
        | none => rw [e] at hi; cases hi
        | some n => rw [e] at hi; exact ⟨n, rfl, (Option.some.inj hi).symm⟩
      have hwm := List.mem_of_getElem? hn
      have s2 : Same H' (upd H'' t (.tup [.int n, .ref p])) := sm.trans (Same.new ht)
      have hp2 := Same.seqT s2 hp
      have hz : (ws.zip qs)[i]? = some (n, v) := by rw [List.getElem?_zip_eq_some]; exact ⟨hn, hv⟩
      have hn1 : n < 2 ^ W := Nat.lt_of_le_of_lt (le_sum_of hwm) w1
      have hv1 : v.n < 2 ^ Vb := Nat.lt_of_le_of_lt (ok.good v hm).2 (v1 v hm)
      have gv := (ok.good v hm).1.pos
      refine ⟨t, _, rfl, .of upd_same, rfl, _, _, rfl, _, _, rfl, rfl, ?_⟩
      refine ⟨_, rfl, _, rfl, _, rfl, _, _, 0, _, rfl, rfl, hp2, rfl, _, _, rfl, rfl, MOk.of hn1 hv1 (by omega), _, rfl, _, rfl, _, _, 1, _, rfl, rfl, hp2, rfl, _, _, rfl, rfl, (by show (0 : Int) < _; omega), _, _, rfl, rfl, ?_, _, _, rfl, rfl, s2, some (.ref p), some (.int n), ?_⟩
      · exact MOk.of (i := n * v.n) (j := lcmAll qs 1 / v.d) (lt_mul_pow hn1 hv1) (Nat.lt_of_le_of_lt (Nat.div_le_self _ _) l1) (by omega)
      · rw [top_more hz]
        rfl
    · rintro σ H'' ⟨sm, z, u, rfl⟩
      have e1 : (ws.zip qs).take (wV ws).length = ws.zip qs := by
        rw [hl, ← hx.length.symm, ← ok.len]
        refine List.take_of_length_le ?_
        rw [List.length_zip]
        omega
      rw [e1]
      refine ⟨_, rfl, _, rfl, a, _, rfl, Same.seqT sm ha, _, rfl, _, _, rfl, rfl, ?_, ?_⟩
      · rw [sum_cast]
        exact MOk.of w1 l1 (by omega)
      · refine ⟨_, ws.sum * lcmAll qs 1, ?_, Nat.mul_pos ok.pos (lcmAll_pos Nat.one_pos gg), fun z H3 s3 hz => q z H3 (sm.trans s3) hz⟩
        rw [sum_cast]
        rfl
end
end LH

set_option Elab.async false
set_option linter.all false
set_option maxRecDepth 100000
set_option maxHeartbeats 4000000
namespace LH
open PySem PySem.Spec PyProof.Rows L2
section
variable {X : Cx} {k : Nat} {C f : Addr} {fd : FuncData} {ps : List Str} {sp : Sp} {x m : Str} {p pos apos : Pos} {e o fe : Expr} {es : List Expr} {ta tf : TE} {t : TA}
/-- a value that may be called -/
structure Callee (P : Program) (w : World) (K : PySem.W.Frag) (mg : Str → Option Value) (base : Heap) (k : Nat) (v : V) (ps : List Str) (sp : Sp) : Prop where
  ex : ∃ (f : Addr) (fd : FuncData), v = .ref f ∧ FnOk P w K mg base CX0 k f fd ps sp ∧ PySem.W.keepIn K (.ref f) = true ∧ Binds K fd ps []
def tClV (P : Program) (w : World) (K : PySem.W.Frag) (mg : Str → Option Value) (base : Heap) (k : Nat) (tf : TE) (t : TA) : TE := fun σ H Q => tf σ H fun x H1 => ∃ ps sp, Callee P w K mg base k x ps sp ∧ t σ H1 fun vs H2 => sp vs H2 Q E0
/-- e(..), e an expression whose value is a def -/
theorem pcV (hf : PE X fe tf) (hr : Room k X.A) (ha : PA X (e :: es) t) (he : starEach (e :: es) X.env = (false, eval e X.env) :: starEach es X.env := by rfl) (hpl : (backTo pos (starEach es X.env)).any (·.1) = false := by rfl)
    (hev : eval (.Call fe (e :: es) [] pos) X.env = (do callWith pos (← eval fe X.env) [] (backTo pos (starEach (e :: es) X.env)) (backToKw pos (keywordEach [] X.env))) := by rfl) :
    PE X (.Call fe (e :: es) [] pos) (tClV X.prog X.w X.K X.mg X.base k tf t) := by
  refine ⟨fun pins s σ H Q I h => ?_⟩
  refine Call_ (thn (hf.run pins s σ H _ I h) fun v s1 ⟨x, H1, I1, r1, ps, sp, hc, q1⟩ => ?_) hev
  obtain ⟨g, gd, rfl, F, hk, hb⟩ := hc.ex
  cases r1
  refine PySem.W.callWith_K (h₀ := X.base) I.ok.mod.kin hk (thn (ha.run pos pins s1 σ H1 _ I1 q1) fun us s2 ⟨vs, H2, I2, r, q⟩ => ⟨I2.kIn, ?_⟩) he hpl
  exact run_fn F hr hb .nil pass0 I2 r (by rw [List.append_nil]; exact q)
/-- C.m(..), C a class whose m is a def -/
theorem pcls {mc : Value} {pl : Sem Bool} (he : PE X o (tC (.ref C))) (rd : ClX.CRead X.K C mc) (kv : ClX.CVal X.K C mc m (.ref f) (.ref f)) (F : FnOk X.prog X.w X.K X.mg X.base CX0 k f fd ps sp) (kp : PySem.W.keepIn X.K (.ref f) = true) (hr : Room k X.A) (hb : Binds X.K fd ps [])
    (ha : PA X (e :: es) t) (hst : starEach (e :: es) X.env = (false, eval e X.env) :: starEach es X.env := by rfl) (hpl : (backTo pos (starEach es X.env)).any (·.1) = false := by rfl)
    (ht : eval (.Call (.Attribute o m apos) (e :: es) [] pos) X.env = (do
      let ov ← eval o X.env
      standAt apos.atName
      let (f, first) ← holding [ov] (getMethod ov m pl)
      callWith pos f first (backTo pos (starEach (e :: es) X.env)) (backToKw pos (keywordEach [] X.env))) := by rfl) :
    PE X (.Call (.Attribute o m apos) (e :: es) [] pos) (tCl sp E0 t) := by
  refine ⟨fun pins s σ H Q I h => ?_⟩
  refine PySem.W.methodCall_KW (pl := pl) (thn (he.run pins s σ H (fun x H1 => x = .ref C ∧ H1 = H) I ⟨rfl, rfl⟩) fun u s1 ⟨x, H1, I1, rx, ex, eH⟩ => ?_) ht
  subst ex eH
  obtain rfl : u = Value.ref C := rx
  refine PySem.W.method_cls I1.kIn rd.ga (ClX.getcval_ok I1 rd kv fun s2 I2 => ?_)
  refine PySem.W.callWith_K (first := []) (h₀ := X.base) I.ok.mod.kin kp (thn (ha.run pos pins s2 σ H1 _ I2 h) fun us s3 ⟨vs, H2, I3, r, q2⟩ => ⟨I3.kIn, ?_⟩) hst hpl
  exact run_fn F hr hb .nil pass0 I3 r (by rw [List.append_nil]; exact q2)
end
section
variable {X : Cx} {C : Addr} {bmB : List Value} {B newId initId : String}
/-- raise X() -/
theorem pmk_own0 {x : Str} {p pos : Pos} (F : ExcBaseFacts B newId initId bmB) (q : PySem.W.excIn X.K C bmB newId = true) (gC : X.mg x = some (.ref C)) (kC : PySem.W.keepIn X.K (.ref C) = true) (r : Raises X (.ref C)) (hg : Gl X x)
    (hdb : (x == ("__debug__" : Str)) = false := by decide) : PMk X (.Call (.Name x p) [] [] pos) (fun _ H Q => Q (.ref C) none H) := by
  intro pins s σ H Q I h
  refine wpAny_Call_Name_kw (ld_glob I hg gC ?_ hdb)
  refine PySem.W.callWith_K0 I.kIn kC ?_
  obtain ⟨bm, N, nm, qn, bs, hdct, sn, sub, ab, col, dd, k0, k1, k2, k3, k5, mN, hC, hN, hni, T⟩ := exc_obj I.kIn q
  refine wpAny_call_exc_subT F T hC hN hni (fun h' e hm => ?_) (by show 0 ≤ sizeLine; exact Nat.zero_le _)
  exact mk_of I hm r h (I.hok.gone hm.new)
/-- what the top has of an own error's class over ValueError -/
structure ErrAt (K : PySem.W.Frag) (mg : Str → Option Value) (x : Str) (C : Addr) : Prop where
  g : mg x = some (.ref C)
  xc : PySem.W.excIn K C [.type "ValueError", .type "Exception", .type "BaseException", .type "object"] "ValueError.__new__" = true
  kp : PySem.W.keepIn K (.ref C) = true
  sb : PySem.W.subIn K (.ref C) (.type "BaseException") = some true
  ty : PySem.W.typeIn K (.ref C) = some (.type "type")
theorem praise {x : Str} {p pos pos' : Pos} {W : WX} (T : ErrAt X.K X.mg x C) (tk : Takes X W) (hc : X.calm = true := by rfl) (hg : Gl X x := by rfl)
    (hdb : (x == ("__debug__" : Str)) = false := by decide) : PS X (.Raise (some (.Call (.Name x p) [] [] pos)) none pos') (fun _ σ H => W (.ref C) none σ H) :=
  ps_raise hc tk (pmk_own0 PySem.F.excBase_ValueError T.xc T.g T.kp (raises_own T.sb T.ty) hg hdb)
end
end LH

set_option Elab.async false
set_option linter.all false
set_option maxRecDepth 100000
set_option maxHeartbeats 4000000
namespace LH
open PySem PySem.Spec PyProof.Rows L2
open Ie02 (Frac)
open LM
/-! sizes that suffice for every product of two -/
structure Sm (N : Nat) (q : Frac) : Prop where
  u : U q
  lt : q.d < 2 ^ N
theorem Sm.nlt {N : Nat} {q : Frac} (h : Sm N q) : q.n < 2 ^ N := Nat.lt_of_le_of_lt h.u.le h.lt
theorem Sm.pos {N : Nat} {q : Frac} (h : Sm N q) : 0 < q.d := h.u.good.pos
theorem Sm.compl {N : Nat} {q : Frac} (h : Sm N q) : Sm N (compl q) := ⟨compl_U h.u, h.lt⟩
theorem Sm.mono {N M : Nat} {q : Frac} (h : Sm N q) (l : N ≤ M) : Sm M q := ⟨h.u, Nat.lt_of_lt_of_le h.lt (Nat.pow_le_pow_right (by decide) l)⟩
def Blk (b s : Frac) : Prop := ∃ N, Sm N b ∧ Sm N s ∧ 2 * N ≤ 134217728
theorem Blk.swap {b s : Frac} (h : Blk b s) : Blk s b := let ⟨N, a, b, c⟩ := h; ⟨N, b, a, c⟩
section
variable {P : Program} {w : World} {K : PySem.W.Frag} {mg : Str → Option Value} {base : Heap}
variable (G_ratio : DefAt P w K mg base CX0 37 "ratio" P_ratio (spRatio K))
abbrev pTimes (a b : Frac) : Prop := MOk a.n b.n ∧ MOk a.d b.d ∧ 0 < a.d ∧ 0 < b.d
theorem pTimes.of {N : Nat} {a b : Frac} (ha : Sm N a) (hb : Sm N b) (h : 2 * N ≤ 134217728) : pTimes a b := ⟨MOk.of ha.nlt hb.nlt (by omega), MOk.of ha.lt hb.lt (by omega), ha.pos, hb.pos⟩
abbrev pMost (a b : Frac) : Prop := MOk a.n b.d ∧ MOk b.n a.d
theorem pMost.of {N : Nat} {a b : Frac} (ha : Sm N a) (hb : Sm N b) (h : 2 * N ≤ 134217728) : pMost a b := ⟨MOk.of ha.nlt hb.lt (by omega), MOk.of hb.nlt ha.lt (by omega)⟩
abbrev s_of_byte : Stmt := topS 24
abbrev N_of_byte : List Str := ["byte"]
abbrev P_of_byte : List Str := ["byte"]
theorem sc_of_byte : FnScope N_of_byte P_of_byte (defScope s_of_byte) := ⟨rfl, rfl, rfl, by decide +kernel, rfl, by decide +kernel, by decide +kernel⟩
theorem d_of_byte (G_ratio : DefAt P w K mg base CX0 37 "ratio" P_ratio (spRatio K)) (F : TopFn K mg "of_byte" "of_byte" s_of_byte P_of_byte) : DefAt P w K mg base CX0 38 "of_byte" P_of_byte (fun vs H Q _ => ∃ k : Nat, vs = [.int k] ∧ ∀ z H', Same H H' → FAt K H' z (Ie02.ofByte k) → Q z H') := by
  refine F.ok sc_of_byte (fun vs H Q E h => ?_) (fun f cdv A outer s H vs Q E hr h => ?_)
  · obtain ⟨_, rfl, _⟩ := h; rfl
  obtain ⟨k, rfl, q⟩ := h
  have nd := sc_of_byte.nd
  refine ⟨_, (pss_one (ps_ret (pc G_ratio (hr.mono (by omega)) pass0 (pa_cons (pv 0) (pa_cons pe_int pa_nil))))), ?_⟩
  exact ⟨_, rfl, k, 255, rfl, by decide, fun z H' s h => q z H' s h⟩
abbrev s_as_byte : Stmt := topS 25
abbrev N_as_byte : List Str := ["one"]
abbrev P_as_byte : List Str := ["one"]
theorem sc_as_byte : FnScope N_as_byte P_as_byte (defScope s_as_byte) := ⟨rfl, rfl, rfl, by decide +kernel, rfl, by decide +kernel, by decide +kernel⟩
theorem d_as_byte (hs : base.NoSeer) (ht : P.given.tree = none) (F : TopFn K mg "as_byte" "as_byte" s_as_byte P_as_byte) : DefAt P w K mg base CX0 38 "as_byte" P_as_byte (fun vs H Q _ => ∃ v q, vs = [v] ∧ FAt K H v q ∧ 0 < q.d ∧ Q (.int (Ie02.toByte q : Nat)) H) := by
  refine F.ok sc_as_byte (fun vs H Q E h => ?_) (fun f cdv A outer s H vs Q E hr h => ?_)
  · obtain ⟨_, _, rfl, _⟩ := h; rfl
  obtain ⟨_, a, rfl, ⟨pa, rfl, hv⟩, hp, q⟩ := h
  have nd := sc_as_byte.nd
  refine ⟨_, (pss_one (ps_ret (pe_op (op_divB (big_of hs ht hr (by decide) rfl rfl rfl)) (pe_op op_add (pe_op op_mulB pe_int (pe_ix ix_tup (pv 0) pe_int (fun _ _ => rfl))) (pe_ix ix_tup (pv 0) pe_int (fun _ _ => rfl))) (pe_op op_mulB pe_int (pe_ix ix_tup (pv 0) pe_int (fun _ _ => rfl)))))), ?_⟩
  exact ⟨_, rfl, _, _, 0, _, rfl, rfl, hv, rfl, _, _, rfl, rfl, mulSmall (by decide), _, rfl, _, _, 1, _, rfl, rfl, hv, rfl, _, _, rfl, rfl, _, rfl, _, _, 1, _, rfl, rfl, hv, rfl, _, _, rfl, rfl, mulSmall (by decide), _, _, rfl, rfl, (by show (0 : Int) < 2 * (a.d : Int); omega), q⟩
/-! the modes -/
def spBl (K : PySem.W.Frag) (m : Nat) : Sp := spF2 K (blendP m) Blk
abbrev s_normal : Stmt := topS 27
abbrev N_normal : List Str := ["lower", "upper"]
abbrev P_normal : List Str := ["lower", "upper"]
theorem sc_normal : FnScope N_normal P_normal (defScope s_normal) := ⟨rfl, rfl, rfl, by decide +kernel, rfl, by decide +kernel, by decide +kernel⟩
theorem d_normal (F : TopFn K mg "normal" "normal" s_normal P_normal) : DefAt P w K mg base CX0 40 "normal" P_normal (spBl K 0) := by
  refine F.ok sc_normal (fun vs H Q E h => ?_) (fun f cdv A outer s H vs Q E hr h => ?_)
  · obtain ⟨_, _, _, _, rfl, _⟩ := h; rfl
  obtain ⟨v, u, a, b, rfl, hv, hu, _, q⟩ := h
  have nd := sc_normal.nd
  refine ⟨_, (pss_one (ps_ret (pv 1))), ?_⟩
  exact ⟨_, rfl, q _ _ (Same.refl _) hu⟩
section
variable (G_times : DefAt P w K mg base CX0 38 "times" P_times (spF2 K Frac.mul pTimes))
variable (G_complement : DefAt P w K mg base CX0 38 "complement" P_complement (spF1 K compl fun a => a.n ≤ a.d))
variable (G_is_at_most : DefAt P w K mg base CX0 38 "is_at_most" P_is_at_most (spT2 K Frac.le pMost))
variable (G_is_at_most_half : DefAt P w K mg base CX0 38 "is_at_most_half" P_is_at_most_half (spT1 K fun a => decide (2 * a.n ≤ a.d)))
abbrev s_multiply : Stmt := topS 28
abbrev N_multiply : List Str := ["lower", "upper"]
abbrev P_multiply : List Str := ["lower", "upper"]
theorem sc_multiply : FnScope N_multiply P_multiply (defScope s_multiply) := ⟨rfl, rfl, rfl, by decide +kernel, rfl, by decide +kernel, by decide +kernel⟩
include G_times in
theorem d_multiply (F : TopFn K mg "multiply" "multiply" s_multiply P_multiply) : DefAt P w K mg base CX0 40 "multiply" P_multiply (spBl K 1) := by
  refine F.ok sc_multiply (fun vs H Q E h => ?_) (fun f cdv A outer s H vs Q E hr h => ?_)
  · obtain ⟨_, _, _, _, rfl, _⟩ := h; rfl
  obtain ⟨v, u, a, b, rfl, hv, hu, ⟨N, sa, sb, hN⟩, q⟩ := h
  have nd := sc_multiply.nd
  refine ⟨_, (pss_one (ps_ret (pc G_times (hr.mono (by omega)) pass0 (pa_cons (pv 0) (pa_cons (pv 1) pa_nil))))), ?_⟩
  exact ⟨_, rfl, _, rfl, _, _, a, b, rfl, hv, hu, pTimes.of sa sb hN, q⟩
abbrev s_screen : Stmt := topS 29
abbrev N_screen : List Str := ["lower", "upper"]
abbrev P_screen : List Str := ["lower", "upper"]
theorem sc_screen : FnScope N_screen P_screen (defScope s_screen) := ⟨rfl, rfl, rfl, by decide +kernel, rfl, by decide +kernel, by decide +kernel⟩
include G_times G_complement in
theorem d_screen (F : TopFn K mg "screen" "screen" s_screen P_screen) : DefAt P w K mg base CX0 40 "screen" P_screen (spBl K 2) := by
  refine F.ok sc_screen (fun vs H Q E h => ?_) (fun f cdv A outer s H vs Q E hr h => ?_)
  · obtain ⟨_, _, _, _, rfl, _⟩ := h; rfl
  obtain ⟨v, u, a, b, rfl, hv, hu, ⟨N, sa, sb, hN⟩, q⟩ := h
  have nd := sc_screen.nd
  refine ⟨_, (pss_one (ps_ret (pc G_complement (hr.mono (by omega)) pass0 (pa_cons (pc G_times (hr.mono (by omega)) pass0 (pa_cons (pc G_complement (hr.mono (by omega)) pass0 (pa_cons (pv 0) pa_nil)) (pa_cons (pc G_complement (hr.mono (by omega)) pass0 (pa_cons (pv 1) pa_nil)) pa_nil))) pa_nil)))), ?_⟩
  refine ⟨_, rfl, _, a, rfl, hv, sa.u.le, fun x H1 s1 h1 => ⟨_, rfl, _, b, rfl, hu.mono s1, sb.u.le, fun y H2 s2 h2 => ?_⟩⟩
  refine ⟨x, y, _, _, rfl, h1.mono s2, h2, pTimes.of sa.compl sb.compl hN, fun z H3 s3 h3 => ?_⟩
  exact ⟨z, _, rfl, h3, (mul_U sa.compl.u sb.compl.u).le, fun r H4 s4 h4 => q r H4 (((s1.trans s2).trans s3).trans s4) h4⟩
abbrev s_hard_light : Stmt := topS 31
abbrev N_hard_light : List Str := ["lower", "upper"]
abbrev P_hard_light : List Str := ["lower", "upper"]
theorem sc_hard_light : FnScope N_hard_light P_hard_light (defScope s_hard_light) := ⟨rfl, rfl, rfl, by decide +kernel, rfl, by decide +kernel, by decide +kernel⟩
include G_times G_complement G_is_at_most_half in
theorem d_hard_light (F : TopFn K mg "hard_light" "hard_light" s_hard_light P_hard_light) : DefAt P w K mg base CX0 40 "hard_light" P_hard_light (spBl K 4) := by
  refine F.ok sc_hard_light (fun vs H Q E h => ?_) (fun f cdv A outer s H vs Q E hr h => ?_)
  · obtain ⟨_, _, _, _, rfl, _⟩ := h; rfl
  obtain ⟨v, u, a, b, rfl, hv, hu, ⟨N, sa, sb, hN⟩, q⟩ := h
  have nd := sc_hard_light.nd
  have q : ∀ z H', Same H H' → FAt K H' z (hardP a b) → Q z H' := q
  unfold hardP at q
  refine ⟨_, (pss_cons (ps_if (pt_val (pc G_is_at_most_half (hr.mono (by omega)) pass0 (pa_cons (pv 1) pa_nil))) (pss_one (ps_ret (pc G_times (hr.mono (by omega)) pass0 (pa_cons (pe_tup (pa_cons pe_int (pa_cons pe_int pa_nil))) (pa_cons (pc G_times (hr.mono (by omega)) pass0 (pa_cons (pv 1) (pa_cons (pv 0) pa_nil))) pa_nil))))) pss_nil) (pss_one (ps_ret (pc G_complement (hr.mono (by omega)) pass0 (pa_cons (pc G_times (hr.mono (by omega)) pass0 (pa_cons (pe_tup (pa_cons pe_int (pa_cons pe_int pa_nil))) (pa_cons (pc G_times (hr.mono (by omega)) pass0 (pa_cons (pc G_complement (hr.mono (by omega)) pass0 (pa_cons (pv 1) pa_nil)) (pa_cons (pc G_complement (hr.mono (by omega)) pass0 (pa_cons (pv 0) pa_nil)) pa_nil))) pa_nil))) pa_nil))))), ?_⟩
  have two : ∀ (r : Frac), 0 < r.d → pTimes ⟨2, 1⟩ r := fun r h => ⟨mulSmall (by decide), mulSmall (by decide), by decide, h⟩
  refine ⟨_, rfl, _, b, rfl, hu, _, rfl, ?_⟩
  by_cases c : 2 * b.n ≤ b.d
  · refine (if_pos (decide_eq_true c)).mpr ?_
    refine ⟨(by show 2 ≤ sizeLine; decide), fun p hp => ⟨_, rfl, _, rfl, _, _, b, a, rfl, hu.mono (Same.new hp), hv.mono (Same.new hp), pTimes.of sb sa hN, fun x H1 s1 h1 => ?_⟩⟩
    refine ⟨_, x, ⟨2, 1⟩, _, rfl, (FAt.made (K := K) hp ⟨2, 1⟩).mono s1, h1, two _ (mul_U sb.u sa.u).good.pos, fun z H2 s2 h2 => q z H2 (((Same.new hp).trans s1).trans s2) ?_⟩
    rw [if_pos c]
    exact h2
  · refine (if_neg (by simpa using c)).mpr ?_
    refine ⟨(by show 2 ≤ sizeLine; decide), fun p hp => ⟨_, rfl, _, b, rfl, hu.mono (Same.new hp), sb.u.le, fun x H1 s1 h1 => ⟨_, rfl, _, a, rfl, (hv.mono (Same.new hp)).mono s1, sa.u.le, fun y H2 s2 h2 => ?_⟩⟩⟩
    refine ⟨x, y, _, _, rfl, h1.mono s2, h2, pTimes.of sb.compl sa.compl hN, fun z H3 s3 h3 => ?_⟩
    have s03 := ((Same.new (o := .tup (fracV ⟨2, 1⟩)) hp).trans s1).trans (s2.trans s3)
    refine ⟨_, z, ⟨2, 1⟩, _, rfl, (FAt.made (K := K) hp ⟨2, 1⟩).mono ((s1.trans s2).trans s3), h3, two _ (mul_U sb.compl.u sa.compl.u).good.pos, fun r H4 s4 h4 => ?_⟩
    have hh := (hard_vals sa.u sb.u).1
    unfold hardP at hh
    rw [if_neg c] at hh q
    have le : (Ie02.two.mul ((compl b).mul (compl a))).n ≤ (Ie02.two.mul ((compl b).mul (compl a))).d := by
      have v : val (Ie02.two.mul ((compl b).mul (compl a))) = 2 * ((1 - val b) * (1 - val a)) := by
        rw [val_mul two_good (mul_good (compl_good sb.u) (compl_good sa.u)), val_mul (compl_good sb.u) (compl_good sa.u), val_two, val_compl sb.u, val_compl sa.u]
      have hb2 : 1 / 2 ≤ val b := by
        have : ¬ val b ≤ 1 / 2 := fun z => c (by rw [← decide_eq_true_iff (p := 2 * b.n ≤ b.d), ← half_iff]; exact (le_half sb.u.good).mpr z)
        grind
      have h1 := sb.u.le1
      have h2 := sa.u.nn
      have h3 := sa.u.le1
      have m := mul_half1 (a := 1 - val b) (b := 1 - val a) (by grind) (by grind) (by grind) (by grind)
      exact (val_le_one (mul_good two_good (mul_good (compl_good sb.u) (compl_good sa.u)))).mp (by rw [v]; exact m.2)
    exact ⟨r, _, rfl, h4, le, fun t H5 s5 h5 => q t H5 ((s03.trans s4).trans s5) h5⟩
abbrev s_overlay : Stmt := topS 30
abbrev N_overlay : List Str := ["lower", "upper"]
abbrev P_overlay : List Str := ["lower", "upper"]
theorem sc_overlay : FnScope N_overlay P_overlay (defScope s_overlay) := ⟨rfl, rfl, rfl, by decide +kernel, rfl, by decide +kernel, by decide +kernel⟩
theorem d_overlay (G_hard_light : DefAt P w K mg base CX0 40 "hard_light" P_hard_light (spBl K 4)) (F : TopFn K mg "overlay" "overlay" s_overlay P_overlay) : DefAt P w K mg base CX0 41 "overlay" P_overlay (spBl K 3) := by
  refine F.ok sc_overlay (fun vs H Q E h => ?_) (fun f cdv A outer s H vs Q E hr h => ?_)
  · obtain ⟨_, _, _, _, rfl, _⟩ := h; rfl
  obtain ⟨v, u, a, b, rfl, hv, hu, hb, q⟩ := h
  have nd := sc_overlay.nd
  refine ⟨_, (pss_one (ps_ret (pc G_hard_light (hr.mono (by omega)) pass0 (pa_cons (pv 1) (pa_cons (pv 0) pa_nil))))), ?_⟩
  exact ⟨_, rfl, _, rfl, _, _, b, a, rfl, hu, hv, hb.swap, q⟩
abbrev s_darken : Stmt := topS 32
abbrev N_darken : List Str := ["lower", "upper"]
abbrev P_darken : List Str := ["lower", "upper"]
theorem sc_darken : FnScope N_darken P_darken (defScope s_darken) := ⟨rfl, rfl, rfl, by decide +kernel, rfl, by decide +kernel, by decide +kernel⟩
include G_is_at_most in
theorem d_darken' (F : TopFn K mg "darken" "darken" s_darken P_darken) : DefAt P w K mg base CX0 40 "darken" P_darken (spF2 K Frac.min pMost) := by
  refine F.ok sc_darken (fun vs H Q E h => ?_) (fun f cdv A outer s H vs Q E hr h => ?_)
  · obtain ⟨_, _, _, _, rfl, _⟩ := h; rfl
  obtain ⟨v, u, a, b, rfl, hv, hu, hm, q⟩ := h
  have nd := sc_darken.nd
  unfold Frac.min at q
  refine ⟨_, (pss_cons (ps_if (pt_val (pc G_is_at_most (hr.mono (by omega)) pass0 (pa_cons (pv 0) (pa_cons (pv 1) pa_nil)))) (pss_one (ps_ret (pv 0))) pss_nil) (pss_one (ps_ret (pv 1)))), ?_⟩
  refine ⟨_, rfl, _, rfl, _, _, a, b, rfl, hv, hu, hm, _, rfl, ?_⟩
  by_cases c : a.le b = true
  · rw [c] at q ⊢
    exact ⟨_, rfl, q _ _ (Same.refl _) hv⟩
  · rw [Bool.eq_false_iff.mpr c] at q ⊢
    exact ⟨_, rfl, q _ _ (Same.refl _) hu⟩
abbrev s_lighten : Stmt := topS 33
abbrev N_lighten : List Str := ["lower", "upper"]
abbrev P_lighten : List Str := ["lower", "upper"]
theorem sc_lighten : FnScope N_lighten P_lighten (defScope s_lighten) := ⟨rfl, rfl, rfl, by decide +kernel, rfl, by decide +kernel, by decide +kernel⟩
include G_is_at_most in
theorem d_lighten' (F : TopFn K mg "lighten" "lighten" s_lighten P_lighten) : DefAt P w K mg base CX0 40 "lighten" P_lighten (spF2 K Frac.max pMost) := by
  refine F.ok sc_lighten (fun vs H Q E h => ?_) (fun f cdv A outer s H vs Q E hr h => ?_)
  · obtain ⟨_, _, _, _, rfl, _⟩ := h; rfl
  obtain ⟨v, u, a, b, rfl, hv, hu, hm, q⟩ := h
  have nd := sc_lighten.nd
  unfold Frac.max at q
  refine ⟨_, (pss_cons (ps_if (pt_val (pc G_is_at_most (hr.mono (by omega)) pass0 (pa_cons (pv 0) (pa_cons (pv 1) pa_nil)))) (pss_one (ps_ret (pv 1))) pss_nil) (pss_one (ps_ret (pv 0)))), ?_⟩
  refine ⟨_, rfl, _, rfl, _, _, a, b, rfl, hv, hu, hm, _, rfl, ?_⟩
  by_cases c : a.le b = true
  · rw [c] at q ⊢
    exact ⟨_, rfl, q _ _ (Same.refl _) hu⟩
  · rw [Bool.eq_false_iff.mpr c] at q ⊢
    exact ⟨_, rfl, q _ _ (Same.refl _) hv⟩
end
theorem DefAt.imp {k : Nat} {x : Str} {ps : List Str} {sp sp' : Sp} (G : DefAt P w K mg base CX0 k x ps sp) (h : ∀ vs H Q E, sp' vs H Q E → sp vs H Q E) : DefAt P w K mg base CX0 k x ps sp' := by
  obtain ⟨f, fd, F, a, b, c⟩ := G.ex
  exact ⟨f, fd, F.imp h, a, b, c⟩
theorem DefAt.mono {CX : CXT} {j k : Nat} {x : Str} {ps : List Str} {sp : Sp} (G : DefAt P w K mg base CX j x ps sp) (h : j ≤ k) : DefAt P w K mg base CX k x ps sp := by
  obtain ⟨f, fd, F, a, b, c⟩ := G.ex
  exact ⟨f, fd, F.mono h, a, b, c⟩
theorem bl_most {f : Frac → Frac → Frac} {vs : List V} {H : Hp} {Q : VK} {E : XK} (h : spF2 K f Blk vs H Q E) : spF2 K f pMost vs H Q E := by
  obtain ⟨v, u, a, b, rfl, hv, hu, ⟨N, sa, sb, hN⟩, q⟩ := h
  exact ⟨v, u, a, b, rfl, hv, hu, pMost.of sa sb hN, q⟩
section
variable (G_complement : DefAt P w K mg base CX0 38 "complement" P_complement (spF1 K compl fun a => a.n ≤ a.d))
variable (G_is_at_most : DefAt P w K mg base CX0 38 "is_at_most" P_is_at_most (spT2 K Frac.le pMost))
variable (G_plus : DefAt P w K mg base CX0 38 "plus" P_plus (spF2 K Frac.add fun a b => MOk a.n b.d ∧ MOk b.n a.d ∧ MOk a.d b.d ∧ 0 < a.d ∧ 0 < b.d))
variable (G_minus : DefAt P w K mg base CX0 38 "minus" P_minus (spF2 K Frac.sub fun a b => MOk a.n b.d ∧ MOk b.n a.d ∧ MOk a.d b.d ∧ 0 < a.d ∧ 0 < b.d ∧ b.n * a.d ≤ a.n * b.d))
variable (G_darken : DefAt P w K mg base CX0 40 "darken" P_darken (spF2 K Frac.min pMost))
variable (G_lighten : DefAt P w K mg base CX0 40 "lighten" P_lighten (spF2 K Frac.max pMost))
abbrev s_difference : Stmt := topS 34
abbrev N_difference : List Str := ["lower", "upper"]
abbrev P_difference : List Str := ["lower", "upper"]
theorem sc_difference : FnScope N_difference P_difference (defScope s_difference) := ⟨rfl, rfl, rfl, by decide +kernel, rfl, by decide +kernel, by decide +kernel⟩
include G_minus G_darken G_lighten in
theorem d_difference (F : TopFn K mg "difference" "difference" s_difference P_difference) : DefAt P w K mg base CX0 41 "difference" P_difference (spBl K 7) := by
  refine F.ok sc_difference (fun vs H Q E h => ?_) (fun f cdv A outer s H vs Q E hr h => ?_)
  · obtain ⟨_, _, _, _, rfl, _⟩ := h; rfl
  obtain ⟨v, u, a, b, rfl, hv, hu, ⟨N, sa, sb, hN⟩, q⟩ := h
  have nd := sc_difference.nd
  refine ⟨_, (pss_one (ps_ret (pc G_minus (hr.mono (by omega)) pass0 (pa_cons (pc G_lighten (hr.mono (by omega)) pass0 (pa_cons (pv 0) (pa_cons (pv 1) pa_nil))) (pa_cons (pc G_darken (hr.mono (by omega)) pass0 (pa_cons (pv 0) (pa_cons (pv 1) pa_nil))) pa_nil))))), ?_⟩
  refine ⟨_, rfl, _, rfl, _, _, a, b, rfl, hv, hu, pMost.of sa sb hN, fun x H1 s1 h1 => ⟨_, rfl, _, rfl, _, _, a, b, rfl, hv.mono s1, hu.mono s1, pMost.of sa sb hN, fun y H2 s2 h2 => ?_⟩⟩
  have sM : Sm N (a.max b) := by unfold Frac.max; split <;> assumption
  have sm : Sm N (a.min b) := by unfold Frac.min; split <;> assumption
  refine ⟨x, y, _, _, rfl, h1.mono s2, h2, ⟨MOk.of sM.nlt sm.lt (by omega), MOk.of sm.nlt sM.lt (by omega), MOk.of sM.lt sm.lt (by omega), sM.pos, sm.pos, ?_⟩, fun z H3 s3 h3 => q z H3 ((s1.trans s2).trans s3) h3⟩
  have l : val (a.min b) ≤ val (a.max b) := by
    rcases val_max sa.u.good sb.u.good with ⟨l1, e1⟩ | ⟨l1, e1⟩ <;> rcases val_min sa.u.good sb.u.good with ⟨l2, e2⟩ | ⟨l2, e2⟩ <;> rw [e1, e2] <;> grind
  unfold val at l
  exact (le_cross sm.pos sM.pos).mp l
abbrev s_add : Stmt := topS 35
abbrev N_add : List Str := ["lower", "upper"]
abbrev P_add : List Str := ["lower", "upper"]
theorem sc_add : FnScope N_add P_add (defScope s_add) := ⟨rfl, rfl, rfl, by decide +kernel, rfl, by decide +kernel, by decide +kernel⟩
include G_plus G_darken in
theorem d_add (F : TopFn K mg "add" "add" s_add P_add) : DefAt P w K mg base CX0 41 "add" P_add (spBl K 8) := by
  refine F.ok sc_add (fun vs H Q E h => ?_) (fun f cdv A outer s H vs Q E hr h => ?_)
  · obtain ⟨_, _, _, _, rfl, _⟩ := h; rfl
  obtain ⟨v, u, a, b, rfl, hv, hu, ⟨N, sa, sb, hN⟩, q⟩ := h
  have nd := sc_add.nd
  refine ⟨_, (pss_one (ps_ret (pc G_darken (hr.mono (by omega)) pass0 (pa_cons (pc G_plus (hr.mono (by omega)) pass0 (pa_cons (pv 0) (pa_cons (pv 1) pa_nil))) (pa_cons (pe_tup (pa_cons pe_int (pa_cons pe_int pa_nil))) pa_nil))))), ?_⟩
  refine ⟨_, rfl, _, rfl, _, _, a, b, rfl, hv, hu, ⟨MOk.of sa.nlt sb.lt (by omega), MOk.of sb.nlt sa.lt (by omega), MOk.of sa.lt sb.lt (by omega), sa.pos, sb.pos⟩, fun x H1 s1 h1 => ⟨(by show 2 ≤ sizeLine; decide), fun p hp => ?_⟩⟩
  have s2 : Same H1 (upd H1 p (.tup (fracV ⟨1, 1⟩))) := Same.new hp
  exact ⟨x, _, _, ⟨1, 1⟩, rfl, h1.mono s2, FAt.made hp ⟨1, 1⟩, ⟨IntMulOk.of_right (intBits_le_64 (by decide) (by decide)), mulSmall (by decide)⟩, fun z H3 s3 h3 => q z H3 ((s1.trans s2).trans s3) h3⟩
abbrev s_subtract : Stmt := topS 36
abbrev N_subtract : List Str := ["lower", "upper"]
abbrev P_subtract : List Str := ["lower", "upper"]
theorem sc_subtract : FnScope N_subtract P_subtract (defScope s_subtract) := ⟨rfl, rfl, rfl, by decide +kernel, rfl, by decide +kernel, by decide +kernel⟩
include G_minus G_is_at_most in
theorem d_subtract (F : TopFn K mg "subtract" "subtract" s_subtract P_subtract) : DefAt P w K mg base CX0 41 "subtract" P_subtract (spBl K 9) := by
  refine F.ok sc_subtract (fun vs H Q E h => ?_) (fun f cdv A outer s H vs Q E hr h => ?_)
  · obtain ⟨_, _, _, _, rfl, _⟩ := h; rfl
  obtain ⟨v, u, a, b, rfl, hv, hu, ⟨N, sa, sb, hN⟩, q⟩ := h
  have nd := sc_subtract.nd
  have q : ∀ z H', Same H H' → FAt K H' z (subP a b) → Q z H' := q
  unfold subP at q
  refine ⟨_, (pss_cons (ps_if (pt_val (pc G_is_at_most (hr.mono (by omega)) pass0 (pa_cons (pv 0) (pa_cons (pv 1) pa_nil)))) (pss_one (ps_ret (pe_tup (pa_cons pe_int (pa_cons pe_int pa_nil))))) pss_nil) (pss_one (ps_ret (pc G_minus (hr.mono (by omega)) pass0 (pa_cons (pv 0) (pa_cons (pv 1) pa_nil)))))), ?_⟩
  refine ⟨_, rfl, _, rfl, _, _, a, b, rfl, hv, hu, pMost.of sa sb hN, _, rfl, ?_⟩
  by_cases c : a.le b = true
  · rw [if_pos c] at q
    rw [c]
    exact ⟨(by show 2 ≤ sizeLine; decide), fun p hp => q _ _ (Same.new hp) (FAt.made hp Ie02.zero)⟩
  · rw [if_neg c] at q
    rw [Bool.eq_false_iff.mpr c]
    have l := ndec sa.u.good sb.u.good c
    unfold val at l
    exact ⟨_, rfl, _, rfl, _, _, a, b, rfl, hv, hu, ⟨MOk.of sa.nlt sb.lt (by omega), MOk.of sb.nlt sa.lt (by omega), MOk.of sa.lt sb.lt (by omega), sa.pos, sb.pos, (le_cross sb.pos sa.pos).mp l⟩, q⟩
abbrev s_colour_dodge : Stmt := topS 37
abbrev N_colour_dodge : List Str := ["lower", "upper", "left"]
abbrev P_colour_dodge : List Str := ["lower", "upper"]
theorem sc_colour_dodge : FnScope N_colour_dodge P_colour_dodge (defScope s_colour_dodge) := ⟨rfl, rfl, rfl, by decide +kernel, rfl, by decide +kernel, by decide +kernel⟩
include G_complement G_is_at_most G_ratio in
theorem d_colour_dodge (F : TopFn K mg "colour_dodge" "colour_dodge" s_colour_dodge P_colour_dodge) : DefAt P w K mg base CX0 41 "colour_dodge" P_colour_dodge (spBl K 10) := by
  refine F.ok sc_colour_dodge (fun vs H Q E h => ?_) (fun f cdv A outer s H vs Q E hr h => ?_)
  · obtain ⟨_, _, _, _, rfl, _⟩ := h; rfl
  obtain ⟨_, _, a, b, rfl, ⟨pa, rfl, ha⟩, hu, ⟨N, sa, sb, hN⟩, q⟩ := h
  have nd := sc_colour_dodge.nd
  have q : ∀ z H', Same H H' → FAt K H' z (dodgeP a b) → Q z H' := q
  unfold dodgeP at q
  refine ⟨_, (pss_cons (ps_if (pt_cmpR op_eq (pe_ix ix_tup (pv 0) pe_int (fun _ _ => rfl)) pe_int (nomark _)) (pss_one (ps_ret (pe_tup (pa_cons pe_int (pa_cons pe_int pa_nil))))) pss_nil) (pss_cons (ps_set (i := 2) nd rfl (Or.inl rfl) (pc G_complement (hr.mono (by omega)) pass0 (pa_cons (pv 1) pa_nil))) (pss_cons (ps_if (pt_val (pc G_is_at_most (hr.mono (by omega)) pass0 (pa_cons (pv 2) (pa_cons (pv 0) pa_nil)))) (pss_one (ps_ret (pe_tup (pa_cons pe_int (pa_cons pe_int pa_nil))))) pss_nil) (pss_one (ps_ret (pc G_ratio (hr.mono (by omega)) pass0 (pa_cons (pe_op op_mulB (pe_ix ix_tup (pv 0) pe_int (fun _ _ => rfl)) (pe_ix ix_tup (pv 2) pe_int (fun _ _ => rfl))) (pa_cons (pe_op op_mulB (pe_ix ix_tup (pv 0) pe_int (fun _ _ => rfl)) (pe_ix ix_tup (pv 2) pe_int (fun _ _ => rfl))) pa_nil)))))))), ?_⟩
  refine ⟨_, rfl, _, _, 0, _, rfl, rfl, ha, rfl, rfl, _, rfl, ?_⟩
  by_cases c : a.n = 0
  · rw [if_pos c] at q
    refine (if_pos (by rw [c]; rfl)).mpr ?_
    exact ⟨(by show 2 ≤ sizeLine; decide), fun p hp => q _ _ (Same.new hp) (FAt.made hp Ie02.zero)⟩
  rw [if_neg c] at q
  refine (if_neg (by simp; omega)).mpr ?_
  refine ⟨_, rfl, _, b, rfl, hu, sb.u.le, fun x H1 s1 h1 => ?_⟩
  have ha1 := Same.seqT s1 ha
  refine ⟨_, rfl, _, rfl, _, _, _, a, rfl, h1, ⟨pa, rfl, ha1⟩, pMost.of sb.compl sa hN, _, rfl, ?_⟩
  by_cases d : (compl b).le a = true
  · rw [if_pos d] at q
    rw [d]
    exact ⟨(by show 2 ≤ sizeLine; decide), fun p hp => q _ _ (s1.trans (Same.new hp)) (FAt.made hp Ie02.one)⟩
  · rw [if_neg d] at q
    rw [Bool.eq_false_iff.mpr d]
    obtain ⟨px, rfl, hx⟩ := h1
    have l := ndec sb.compl.u.good sa.u.good d
    have cn : 0 < (compl b).n := by
      refine Nat.pos_of_ne_zero fun z => ?_
      have e := (val_eq_zero sb.compl.u.good).mpr z
      rw [e] at l
      have h0 := sa.u.nn
      exact c ((val_eq_zero sa.u.good).mp (by grind))
    exact ⟨_, rfl, _, _, 0, _, rfl, rfl, ha1, rfl, _, rfl, _, _, 1, _, rfl, rfl, hx, rfl, _, _, rfl, rfl, MOk.of sa.nlt sb.compl.lt (by omega), _, rfl, _, _, 1, _, rfl, rfl, ha1, rfl, _, rfl, _, _, 0, _, rfl, rfl, hx, rfl, _, _, rfl, rfl, MOk.of sa.lt sb.compl.nlt (by omega), a.n * (compl b).d, a.d * (compl b).n, rfl, Nat.mul_pos sa.pos cn, fun z H2 s2 h2 => q z H2 (s1.trans s2) h2⟩
abbrev s_colour_burn : Stmt := topS 38
abbrev N_colour_burn : List Str := ["lower", "upper", "missing"]
abbrev P_colour_burn : List Str := ["lower", "upper"]
theorem sc_colour_burn : FnScope N_colour_burn P_colour_burn (defScope s_colour_burn) := ⟨rfl, rfl, rfl, by decide +kernel, rfl, by decide +kernel, by decide +kernel⟩
include G_complement G_is_at_most G_ratio in
theorem d_colour_burn (F : TopFn K mg "colour_burn" "colour_burn" s_colour_burn P_colour_burn) : DefAt P w K mg base CX0 41 "colour_burn" P_colour_burn (spBl K 11) := by
  refine F.ok sc_colour_burn (fun vs H Q E h => ?_) (fun f cdv A outer s H vs Q E hr h => ?_)
  · obtain ⟨_, _, _, _, rfl, _⟩ := h; rfl
  obtain ⟨_, _, a, b, rfl, ⟨pa, rfl, ha⟩, ⟨pb, rfl, hb⟩, ⟨N, sa, sb, hN⟩, q⟩ := h
  have nd := sc_colour_burn.nd
  have bu := (burn_vals sa.u sb.u).1
  have q : ∀ z H', Same H H' → FAt K H' z (burnP a b) → Q z H' := q
  unfold burnP at q bu
  refine ⟨_, (pss_cons (ps_if (pt_cmpR op_eq (pe_ix ix_tup (pv 0) pe_int (fun _ _ => rfl)) (pe_ix ix_tup (pv 0) pe_int (fun _ _ => rfl)) (nomark _)) (pss_one (ps_ret (pe_tup (pa_cons pe_int (pa_cons pe_int pa_nil))))) pss_nil) (pss_cons (ps_set (i := 2) nd rfl (Or.inl rfl) (pc G_complement (hr.mono (by omega)) pass0 (pa_cons (pv 0) pa_nil))) (pss_cons (ps_if (pt_val (pc G_is_at_most (hr.mono (by omega)) pass0 (pa_cons (pv 1) (pa_cons (pv 2) pa_nil)))) (pss_one (ps_ret (pe_tup (pa_cons pe_int (pa_cons pe_int pa_nil))))) pss_nil) (pss_one (ps_ret (pc G_complement (hr.mono (by omega)) pass0 (pa_cons (pc G_ratio (hr.mono (by omega)) pass0 (pa_cons (pe_op op_mulB (pe_ix ix_tup (pv 2) pe_int (fun _ _ => rfl)) (pe_ix ix_tup (pv 1) pe_int (fun _ _ => rfl))) (pa_cons (pe_op op_mulB (pe_ix ix_tup (pv 2) pe_int (fun _ _ => rfl)) (pe_ix ix_tup (pv 1) pe_int (fun _ _ => rfl))) pa_nil))) pa_nil))))))), ?_⟩
  refine ⟨_, rfl, _, _, 0, _, rfl, rfl, ha, rfl, _, rfl, _, _, 1, _, rfl, rfl, ha, rfl, rfl, _, rfl, ?_⟩
  by_cases c : a.n = a.d
  · rw [if_pos c] at q
    refine (if_pos (by rw [c]; simp)).mpr ?_
    exact ⟨(by show 2 ≤ sizeLine; decide), fun p hp => q _ _ (Same.new hp) (FAt.made hp Ie02.one)⟩
  rw [if_neg c] at q bu
  refine (if_neg (by simp; omega)).mpr ?_
  refine ⟨_, rfl, _, a, rfl, ⟨pa, rfl, ha⟩, sa.u.le, fun x H1 s1 h1 => ?_⟩
  have hb1 := Same.seqT s1 hb
  refine ⟨_, rfl, _, rfl, _, _, b, _, rfl, ⟨pb, rfl, hb1⟩, h1, pMost.of sb sa.compl hN, _, rfl, ?_⟩
  by_cases d : b.le (compl a) = true
  · rw [if_pos d] at q
    rw [d]
    exact ⟨(by show 2 ≤ sizeLine; decide), fun p hp => q _ _ (s1.trans (Same.new hp)) (FAt.made hp Ie02.zero)⟩
  · rw [if_neg d] at q bu
    rw [Bool.eq_false_iff.mpr d]
    obtain ⟨px, rfl, hx⟩ := h1
    have l := ndec sb.u.good sa.compl.u.good d
    have bn : 0 < b.n := by
      refine Nat.pos_of_ne_zero fun z => ?_
      have e := (val_eq_zero sb.u.good).mpr z
      rw [e, val_compl sa.u] at l
      have h0 := sa.u.le1
      exact c (by rw [nd_one sa.u.good]; exact (val_one_iff sa.u.good).mp (by grind))
    refine ⟨_, rfl, _, _, 0, _, rfl, rfl, hx, rfl, _, rfl, _, _, 1, _, rfl, rfl, hb1, rfl, _, _, rfl, rfl, MOk.of sa.compl.nlt sb.lt (by omega), _, rfl, _, _, 1, _, rfl, rfl, hx, rfl, _, rfl, _, _, 0, _, rfl, rfl, hb1, rfl, _, _, rfl, rfl, MOk.of sa.compl.lt sb.nlt (by omega), (compl a).n * b.d, (compl a).d * b.n, rfl, Nat.mul_pos sa.compl.pos bn, fun z H2 s2 h2 => ?_⟩
    have le : (Ie02.frac ((compl a).n * b.d) ((compl a).d * b.n)).n ≤ (Ie02.frac ((compl a).n * b.d) ((compl a).d * b.n)).d := by
      obtain ⟨gq, vq⟩ := val_fracdiv sa.compl.u.good sb.u.good bn
      refine (val_le_one gq).mp ?_
      rw [vq]
      exact (div_le_one sa.compl.u.nn l (by have := sb.u.nn; have : ¬ val b = 0 := fun z => Nat.ne_of_gt bn ((val_eq_zero sb.u.good).mp z); grind)).2
    exact ⟨z, _, rfl, h2, le, fun r H3 s3 h3 => q r H3 ((s1.trans s2).trans s3) h3⟩
end
end
end LH

set_option Elab.async false
set_option linter.all false
set_option maxRecDepth 100000
set_option maxHeartbeats 4000000
namespace LH
open PySem PySem.Spec PyProof.Rows L2
open Ie02 (Frac Px Colour)
open LM
/-! pixels in the heap -/
def pxL (p : Px) : List Frac := [p.c.r, p.c.g, p.c.b, p.a]
def PAt (K : PySem.W.Frag) (H : Hp) (v : V) (p : Px) : Prop := ∃ a xs, v = .ref a ∧ SqT K H a xs ∧ FsAt K H xs (pxL p)
section
variable {K : PySem.W.Frag} {H H' : Hp} {v : V} {p : Px}
theorem FsAt.mono {xs : List V} {qs : List Frac} (h : FsAt K H xs qs) (e : Same H H') : FsAt K H' xs qs := L2.Paired.mapP h fun _ _ x => FAt.mono x e
theorem PAt.mono (h : PAt K H v p) (e : Same H H') : PAt K H' v p := by
  obtain ⟨a, xs, rfl, x, y⟩ := h
  exact ⟨a, xs, rfl, Same.seqT e x, FsAt.mono y e⟩
theorem SqT.updL {a D : Addr} {xs l : List V} {o : HO} (h : SqT K H a xs) (hD : H D = some (.lst l)) : SqT K (upd H D o) a xs := by
  rcases h with (h | ⟨u, h⟩) | h
  · exact .inl (.inl (by rw [upd_ne (ne_of h hD (by intro z; cases z))]; exact h))
  · exact .inl (.inr ⟨u, by rw [upd_ne (ne_of h hD (by intro z; cases z))]; exact h⟩)
  · exact .inr h
theorem FAt.updL {D : Addr} {q : Frac} {l : List V} {o : HO} (h : FAt K H v q) (hD : H D = some (.lst l)) : FAt K (upd H D o) v q := by
  obtain ⟨a, rfl, x⟩ := h
  exact ⟨a, rfl, SqT.updL x hD⟩
theorem PAt.get (h : PAt K H v p) : ∃ a r g b l, v = .ref a ∧ SqT K H a [.ref r, .ref g, .ref b, .ref l] ∧ SqT K H r (fracV p.c.r) ∧ SqT K H g (fracV p.c.g) ∧ SqT K H b (fracV p.c.b) ∧ SqT K H l (fracV p.a) := by
  obtain ⟨a, xs, rfl, x, y⟩ := h
  cases y with
  | cons h1 y => cases y with
    | cons h2 y => cases y with
      | cons h3 y => cases y with
        | cons h4 y =>
          cases y
          obtain ⟨r, rfl, h1⟩ := h1
          obtain ⟨g, rfl, h2⟩ := h2
          obtain ⟨b, rfl, h3⟩ := h3
          obtain ⟨l, rfl, h4⟩ := h4
          exact ⟨a, r, g, b, l, rfl, x, h1, h2, h3, h4⟩
end
def chn (c : Colour) (i : Nat) : Frac := match i with
  | 0 => c.r
  | 1 => c.g
  | _ => c.b
theorem chan_at {K : PySem.W.Frag} {H : Hp} {r g b l : Addr} {c : Colour} (hr : SqT K H r (fracV c.r)) (hg : SqT K H g (fracV c.g)) (hb : SqT K H b (fracV c.b)) {i : Nat} (hi : i < 3) : ∃ a, [V.ref r, V.ref g, V.ref b, V.ref l][i]? = some (.ref a) ∧ SqT K H a (fracV (chn c i)) := by
  match i, hi with
  | 0, _ => exact ⟨r, rfl, hr⟩
  | 1, _ => exact ⟨g, rfl, hg⟩
  | 2, _ => exact ⟨b, rfl, hb⟩
theorem atI0 {α : Type} {xs : List α} {i : Nat} {v : α} (h : xs[i]? = some v) : atI xs (0 + (i : Int)) = some v := by
  rw [Int.zero_add]
  exact atI_nat h
/-- a list that a comprehension makes: fractions so far -/
structure Acc (K : PySem.W.Frag) (H1 : Hp) (D : Addr) (fs : List Frac) (H : Hp) : Prop where
  same : Same H1 H
  new : H1 D = none
  at_ : ∃ acc, H D = some (.lst acc) ∧ FsAt K H acc fs
section
variable {K : PySem.W.Frag} {H H1 H4 : Hp} {D : Addr} {fs : List Frac}
theorem Same.updNew {o : HO} (h : Same H1 H) (n : H1 D = none) : Same H1 (upd H D o) := fun b u e => by
  rw [upd_ne (ne_of_none e n)]
  exact h b u e
theorem Acc.start (n : H1 D = none) : Acc K H1 D [] (upd H1 D (.lst [])) := ⟨Same.new n, n, [], upd_same, .nil⟩
theorem Acc.step {y : V} {q : Frac} (A : Acc K H1 D fs H) (s : Same H H4) (hy : FAt K H4 y q) (hl : fs.length < 1000) : ∃ acc, H4 D = some (.lst acc) ∧ acc.length < sizeLine ∧ Acc K H1 D (fs ++ [q]) (upd H4 D (.lst (acc ++ [y]))) := by
  obtain ⟨acc, h, p⟩ := A.at_
  have h4 := s D _ h
  refine ⟨acc, h4, by rw [p.length]; exact Nat.lt_trans hl (by decide), Same.updNew (A.same.trans s) A.new, A.new, acc ++ [y], upd_same, ?_⟩
  refine Paired.snoc (L2.Paired.mapP p fun _ _ x => FAt.updL (FAt.mono x s) h4) (FAt.updL hy h4)
end
theorem FsAt.three {K : PySem.W.Frag} {H : Hp} {xs : List V} {a b c : Frac} (h : FsAt K H xs [a, b, c]) : ∃ x y z, xs = [.ref x, .ref y, .ref z] ∧ SqT K H x (fracV a) ∧ SqT K H y (fracV b) ∧ SqT K H z (fracV c) := by
  cases h with
  | cons h1 h => cases h with
    | cons h2 h => cases h with
      | cons h3 h =>
        cases h
        obtain ⟨x, rfl, h1⟩ := h1
        obtain ⟨y, rfl, h2⟩ := h2
        obtain ⟨z, rfl, h3⟩ := h3
        exact ⟨x, y, z, rfl, h1, h2, h3⟩
theorem PAt.mk4 {K : PySem.W.Frag} {H : Hp} {p r g b l : Addr} {c : Colour} {a : Frac} (hp : H p = none) (hr : SqT K H r (fracV c.r)) (hg : SqT K H g (fracV c.g)) (hb : SqT K H b (fracV c.b)) (hl : SqT K H l (fracV a)) : PAt K (upd H p (.tup [.ref r, .ref g, .ref b, .ref l])) (.ref p) ⟨c, a⟩ :=
  ⟨p, _, rfl, .of upd_same, .cons ⟨r, rfl, Same.seqT (Same.new hp) hr⟩ (.cons ⟨g, rfl, Same.seqT (Same.new hp) hg⟩ (.cons ⟨b, rfl, Same.seqT (Same.new hp) hb⟩ (.cons ⟨l, rfl, Same.seqT (Same.new hp) hl⟩ .nil)))⟩
/-! sizes -/
theorem lt_of_le_pow {a n : Nat} (h : a ≤ 2 ^ n) : a < 2 ^ (n + 1) := Nat.lt_of_le_of_lt h (by rw [Nat.pow_succ]; have := Nat.two_pow_pos n; omega)
theorem U.nlt {q : Frac} {n : Nat} (h : U q) (l : q.d ≤ 2 ^ n) : q.n < 2 ^ (n + 1) := lt_of_le_pow (Nat.le_trans h.le l)
theorem blk_of {a b : Frac} {i j : Nat} (ha : U a) (hb : U b) (la : a.d ≤ 2 ^ i) (lb : b.d ≤ 2 ^ j) (h : 2 * (i + j + 1) ≤ 134217728) : Blk a b :=
  ⟨i + j + 1, ⟨ha, Nat.lt_of_lt_of_le (lt_of_le_pow la) (pw_mono (by omega))⟩, ⟨hb, Nat.lt_of_lt_of_le (lt_of_le_pow lb) (pw_mono (by omega))⟩, h⟩
theorem lim_chn {p : Px} {N : Nat} (h : Lim p N) (i : Nat) : U (chn p.c i) ∧ (chn p.c i).d ≤ 2 ^ N := by
  match i with
  | 0 => exact ⟨h.up.c.r, h.r⟩
  | 1 => exact ⟨h.up.c.g, h.g⟩
  | k + 2 => exact ⟨h.up.c.b, h.b⟩
theorem NU_eq : NU = 21300000 := rfl
theorem NL_eq : NL = 10650000 := rfl
theorem NA_eq : NA = 5400000 := rfl
theorem UU (q : Frac) (h : U q) : Good q ∧ q.n ≤ q.d := ⟨h.good, h.le⟩
/-- the mean of a blended channel and its parts -/
theorem meanOk3 {ws : List Nat} {S bl B : Frac} {W i j : Nat} (m : Nat) (hl : ws.length = 3) (hs : 0 < ws.sum) (hW : ws.sum ≤ 2 ^ W) (uS : U S) (uB : U B) (lS : S.d ≤ 2 ^ j) (lB : B.d ≤ 2 ^ i) (e : bl = blendP m B S) (h : W + (i + j) + (i + 2 * j) + 3 ≤ 134217728) : MeanOk ws [S, bl, B] := by
  have hb := (blend_vals m uB uS).1
  have x := Xof_pos m uS
  have db := blend_den m uB uS
  rw [← e] at hb db
  have lX : Xof m S ≤ 2 ^ j := Nat.le_trans x.2 lS
  have pX : 0 < B.d * Xof m S := Nat.mul_pos uB.good.pos x.1
  have lbl : bl.d ≤ 2 ^ (i + j) := Nat.le_trans (Nat.le_of_dvd pX db) (mul_le_pow lB lX)
  have us := good3 uS hb uB
  refine ⟨hl, hs, fun q hq => UU q (us q hq), W + 1, i + j + 1, i + 2 * j + 1, lt_of_le_pow hW, fun q hq => ?_, ?_, by omega⟩
  · simp only [List.mem_cons, List.not_mem_nil, or_false] at hq
    rcases hq with rfl | rfl | rfl
    · exact Nat.lt_of_lt_of_le (lt_of_le_pow lS) (pw_mono (by omega))
    · exact lt_of_le_pow lbl
    · exact Nat.lt_of_lt_of_le (lt_of_le_pow lB) (pw_mono (by omega))
  · refine lt_of_le_pow ?_
    have d : lcmAll [S, bl, B] 1 ∣ B.d * Xof m S * S.d := lcmAll_least Nat.one_pos (goods us) (Nat.one_dvd _) fun v hv => by
      simp only [List.mem_cons, List.not_mem_nil, or_false] at hv
      rcases hv with rfl | rfl | rfl
      · exact Nat.dvd_mul_left _ _
      · exact Nat.dvd_trans db (Nat.dvd_mul_right _ _)
      · exact Nat.dvd_trans (Nat.dvd_mul_right _ _) (Nat.dvd_mul_right _ _)
    refine Nat.le_trans (Nat.le_of_dvd (Nat.mul_pos pX uS.good.pos) d) ?_
    rw [show i + 2 * j = i + j + j by omega]
    exact mul_le_pow (mul_le_pow lB lX) lS
theorem meanOk2 {ws : List Nat} {bl B S : Frac} {W i j : Nat} (m : Nat) (hl : ws.length = 2) (hs : 0 < ws.sum) (hW : ws.sum ≤ 2 ^ W) (uS : U S) (uB : U B) (lS : S.d ≤ 2 ^ j) (lB : B.d ≤ 2 ^ i) (e : bl = blendP m B S) (h : W + (i + j) + (i + j) + 3 ≤ 134217728) : MeanOk ws [B, bl] := by
  have hb := (blend_vals m uB uS).1
  have x := Xof_pos m uS
  have db := blend_den m uB uS
  rw [← e] at hb db
  have lX : Xof m S ≤ 2 ^ j := Nat.le_trans x.2 lS
  have pX : 0 < B.d * Xof m S := Nat.mul_pos uB.good.pos x.1
  have lbl : bl.d ≤ 2 ^ (i + j) := Nat.le_trans (Nat.le_of_dvd pX db) (mul_le_pow lB lX)
  have us := good2 uB hb
  refine ⟨hl, hs, fun q hq => UU q (us q hq), W + 1, i + j + 1, i + j + 1, lt_of_le_pow hW, fun q hq => ?_, ?_, by omega⟩
  · simp only [List.mem_cons, List.not_mem_nil, or_false] at hq
    rcases hq with rfl | rfl
    · exact Nat.lt_of_lt_of_le (lt_of_le_pow lB) (pw_mono (by omega))
    · exact lt_of_le_pow lbl
  · refine lt_of_le_pow ?_
    have d : lcmAll [B, bl] 1 ∣ B.d * Xof m S := lcmAll_least Nat.one_pos (goods us) (Nat.one_dvd _) fun v hv => by
      simp only [List.mem_cons, List.not_mem_nil, or_false] at hv
      rcases hv with rfl | rfl
      · exact Nat.dvd_mul_right _ _
      · exact db
    exact Nat.le_trans (Nat.le_of_dvd pX d) (mul_le_pow lB lX)
theorem meanOkM {ws : List Nat} {x y : Frac} {W i j : Nat} (hl : ws.length = 2) (hs : 0 < ws.sum) (hW : ws.sum ≤ 2 ^ W) (ux : U x) (uy : U y) (lx : x.d ≤ 2 ^ i) (ly : y.d ≤ 2 ^ j) (h : W + (i + j) + (i + j) + 3 ≤ 134217728) : MeanOk ws [x, y] := by
  have us := good2 ux uy
  refine ⟨hl, hs, fun q hq => UU q (us q hq), W + 1, i + j + 1, i + j + 1, lt_of_le_pow hW, fun q hq => ?_, ?_, by omega⟩
  · simp only [List.mem_cons, List.not_mem_nil, or_false] at hq
    rcases hq with rfl | rfl
    · exact Nat.lt_of_lt_of_le (lt_of_le_pow lx) (pw_mono (by omega))
    · exact Nat.lt_of_lt_of_le (lt_of_le_pow ly) (pw_mono (by omega))
  · refine lt_of_le_pow ?_
    have d : lcmAll [x, y] 1 ∣ x.d * y.d := lcmAll_least Nat.one_pos (goods us) (Nat.one_dvd _) fun v hv => by
      simp only [List.mem_cons, List.not_mem_nil, or_false] at hv
      rcases hv with rfl | rfl
      · exact Nat.dvd_mul_right _ _
      · exact Nat.dvd_mul_left _ _
    exact Nat.le_trans (Nat.le_of_dvd (Nat.mul_pos ux.good.pos uy.good.pos) d) (mul_le_pow lx ly)
section
variable {P : Program} {w : World} {K : PySem.W.Frag} {mg : Str → Option Value} {base : Heap}
def spNothing (K : PySem.W.Frag) : Sp := fun vs H Q _ => vs = [] ∧ ∀ z H', Same H H' → PAt K H' z Ie02.nothing → Q z H'
abbrev s_nothing : Stmt := topS 42
abbrev N_nothing : List Str := []
abbrev P_nothing : List Str := []
theorem sc_nothing : FnScope N_nothing P_nothing (defScope s_nothing) := ⟨rfl, rfl, rfl, by decide +kernel, rfl, by decide +kernel, by decide +kernel⟩
theorem d_nothing (F : TopFn K mg "nothing" "nothing" s_nothing P_nothing) : DefAt P w K mg base CX0 38 "nothing" P_nothing (spNothing K) := by
  refine F.ok sc_nothing (fun vs H Q E h => ?_) (fun f cdv A outer s H vs Q E hr h => ?_)
  · obtain ⟨rfl, _⟩ := h; rfl
  obtain ⟨rfl, q⟩ := h
  have nd := sc_nothing.nd
  refine ⟨_, (pss_one (ps_ret (pe_tup (pa_cons (pe_tup (pa_cons pe_int (pa_cons pe_int pa_nil))) (pa_cons (pe_tup (pa_cons pe_int (pa_cons pe_int pa_nil))) (pa_cons (pe_tup (pa_cons pe_int (pa_cons pe_int pa_nil))) (pa_cons (pe_tup (pa_cons pe_int (pa_cons pe_int pa_nil))) pa_nil))))))), ?_⟩
  refine ⟨(by show 2 ≤ sizeLine; decide), fun p1 h1 => ⟨(by show 2 ≤ sizeLine; decide), fun p2 h2 => ⟨(by show 2 ≤ sizeLine; decide), fun p3 h3 => ⟨(by show 2 ≤ sizeLine; decide), fun p4 h4 => ⟨(by show 4 ≤ sizeLine; decide), fun p h => ?_⟩⟩⟩⟩⟩
  have t1 : SqT K _ p1 (fracV Ie02.zero) := .of (upd_same (H := H))
  have t2 : SqT K _ p2 (fracV Ie02.zero) := .of (upd_same (H := upd H p1 (.tup (fracV Ie02.zero))))
  have t3 : SqT K _ p3 (fracV Ie02.zero) := .of (upd_same (H := upd (upd H p1 (.tup (fracV Ie02.zero))) p2 (.tup (fracV Ie02.zero))))
  have t4 : SqT K _ p4 (fracV Ie02.zero) := .of (upd_same (H := upd (upd (upd H p1 (.tup (fracV Ie02.zero))) p2 (.tup (fracV Ie02.zero))) p3 (.tup (fracV Ie02.zero))))
  have s2 := Same.new (o := .tup (fracV Ie02.zero)) h2
  have s3 := Same.new (o := .tup (fracV Ie02.zero)) h3
  have s4 := Same.new (o := .tup (fracV Ie02.zero)) h4
  refine q _ _ ((((Same.new h1).trans s2).trans s3).trans (s4.trans (Same.new h))) ?_
  exact PAt.mk4 (c := Ie02.black) (a := Ie02.zero) h (Same.seqT ((s2.trans s3).trans s4) t1) (Same.seqT (s3.trans s4) t2) (Same.seqT s4 t3) t4
/-! blend -/
def spBlend (K : PySem.W.Frag) : Sp := fun vs H Q _ => ∃ (m : Nat) (v u : V) (a b : Frac), vs = [.int m, v, u] ∧ m ≤ 11 ∧ FAt K H v a ∧ FAt K H u b ∧ Blk a b ∧ ∀ z H', Same H H' → FAt K H' z (blendP m a b) → Q z H'
structure Modes (P : Program) (w : World) (K : PySem.W.Frag) (mg : Str → Option Value) (base : Heap) (a : Addr) (fs : List V) : Prop where
  c_MODES : mg "MODES" = some (.ref a)
  seq : ∀ H, SqT K H a fs
  at_ : ∀ m, m ≤ 11 → ∃ v ps, fs[m]? = some v ∧ Callee P w K mg base 41 v ps (spBl K m)
abbrev s_blend : Stmt := topS 40
abbrev N_blend : List Str := ["mode", "lower", "upper"]
abbrev P_blend : List Str := ["mode", "lower", "upper"]
theorem sc_blend : FnScope N_blend P_blend (defScope s_blend) := ⟨rfl, rfl, rfl, by decide +kernel, rfl, by decide +kernel, by decide +kernel⟩
theorem d_blend {aM : Addr} {fs : List V} (T : Modes P w K mg base aM fs) (F : TopFn K mg "blend" "blend" s_blend P_blend) : DefAt P w K mg base CX0 42 "blend" P_blend (spBlend K) := by
  refine F.ok sc_blend (fun vs H Q E h => ?_) (fun f cdv A outer s H vs Q E hr h => ?_)
  · obtain ⟨_, _, _, _, _, rfl, _⟩ := h; rfl
  obtain ⟨m, v, u, a, b, rfl, hm, hv, hu, hb, q⟩ := h
  have nd := sc_blend.nd
  refine ⟨_, (pss_one (ps_ret (pcV (pe_ix (r := rIxT K) ix_tup (pe_glob (v := .ref _) rfl T.c_MODES rfl) (pv 0) (fun _ _ => rfl)) hr (pa_cons (pv 1) (pa_cons (pv 2) pa_nil))))), ?_⟩
  obtain ⟨g, ps, e, G⟩ := T.at_ m hm
  exact ⟨_, rfl, aM, fs, _, g, rfl, rfl, T.seq H, atI_nat e, ps, _, G, _, rfl, _, rfl, v, u, a, b, rfl, hv, hu, hb, q⟩
/-! over, atop, mix -/
def WOk (w : Frac) : Prop := U w ∧ w.d ≤ 2 ^ 16
def spOver (K : PySem.W.Frag) : Sp := fun vs H Q _ => ∃ (m : Nat) (v u x : V) (wt : Frac) (lo up : Px), vs = [.int m, v, u, x] ∧ m ≤ 11 ∧ FAt K H v wt ∧ WOk wt ∧ PAt K H u lo ∧ PAt K H x up ∧ LimL lo ∧ Lim up NU ∧ ∀ z H', Same H H' → PAt K H' z (overP m wt lo up) → Q z H'
def spAtop (K : PySem.W.Frag) : Sp := fun vs H Q _ => ∃ (m : Nat) (v u x : V) (wt : Frac) (lo up : Px), vs = [.int m, v, u, x] ∧ m ≤ 11 ∧ FAt K H v wt ∧ WOk wt ∧ PAt K H u lo ∧ PAt K H x up ∧ LimL lo ∧ Lim up (NU + 4) ∧ ∀ z H', Same H H' → PAt K H' z (atopP m wt lo up) → Q z H'
def spMix (K : PySem.W.Frag) : Sp := fun vs H Q _ => ∃ (v u x : V) (wt : Frac) (lo up : Px), vs = [v, u, x] ∧ FAt K H v wt ∧ WOk wt ∧ PAt K H u lo ∧ PAt K H x up ∧ LimL lo ∧ LimL up ∧ ∀ z H', Same H H' → PAt K H' z (mixP wt lo up) → Q z H'
theorem ap_le {w a : Frac} (hw : WOk w) (ha : U a) (l : a.d ≤ 2 ^ NA) : U (w.mul a) ∧ (w.mul a).d ≤ 2 ^ (16 + NA) :=
  ⟨mul_U hw.1 ha, Nat.le_trans (Nat.le_of_dvd (Nat.mul_pos hw.1.good.pos ha.good.pos) (mul_d_dvd w a)) (mul_le_pow hw.2 l)⟩
theorem pTimes.ofLe {a b : Frac} {i j : Nat} (ha : U a) (hb : U b) (la : a.d ≤ 2 ^ i) (lb : b.d ≤ 2 ^ j) (h : i + j + 2 ≤ 134217728) : pTimes a b :=
  ⟨MOk.of (U.nlt ha la) (U.nlt hb lb) (by omega), MOk.of (lt_of_le_pow la) (lt_of_le_pow lb) (by omega), ha.good.pos, hb.good.pos⟩
theorem MOk.ofLe {x y i j : Nat} (h1 : x ≤ 2 ^ i) (h2 : y ≤ 2 ^ j) (h : i + j + 2 ≤ 134217728) : MOk x y := MOk.of (lt_of_le_pow h1) (lt_of_le_pow h2) (by omega)
theorem sub_cast {q : Frac} (h : U q) : ((q.d : Int) - (q.n : Int)) = ((q.d - q.n : Nat) : Int) := (Int.natCast_sub h.le).symm
end
end LH

set_option Elab.async false
set_option linter.all false
set_option maxRecDepth 100000
set_option maxHeartbeats 4000000
namespace LH
open PySem PySem.Spec PyProof.Rows L2
open Ie02 (Frac Px Colour)
open LM
theorem tYes_go {σ : L2.St} {H : Hp} {A B : Hp → Prop} (h : A H) : tYes σ H fun b H3 => if b = true then A H3 else B H3 := by
  show if true = true then A H else B H
  rw [if_pos rfl]
  exact h
theorem three_of {α : Type} (f : Nat → α) : [f 0, f 1, f 2] = (List.range 3).map f := rfl
theorem range_more {α : Type} (f : Nat → α) (i : Nat) : (List.range (i + 1)).map f = (List.range i).map f ++ [f i] := by
  rw [List.range_succ, List.map_append]
  rfl
section
variable {P : Program} {w : World} {K : PySem.W.Frag} {mg : Str → Option Value} {base : Heap}
section
variable (G_times : DefAt P w K mg base CX0 38 "times" P_times (spF2 K Frac.mul pTimes))
variable (G_complement : DefAt P w K mg base CX0 38 "complement" P_complement (spF1 K compl fun a => a.n ≤ a.d))
variable (G_ratio : DefAt P w K mg base CX0 37 "ratio" P_ratio (spRatio K))
variable (G_mean : DefAt P w K mg base CX0 38 "mean" P_mean (spMean K))
variable (G_blend : DefAt P w K mg base CX0 42 "blend" P_blend (spBlend K))
variable (G_nothing : DefAt P w K mg base CX0 38 "nothing" P_nothing (spNothing K))
variable (T : TB mg)
abbrev s_over : Stmt := topS 45
abbrev N_over : List Str := ["mode", "weight", "lower", "upper", "applied", "behind", "shares", "alpha", "colour", "part"]
abbrev P_over : List Str := ["mode", "weight", "lower", "upper"]
theorem sc_over : FnScope N_over P_over (defScope s_over) := ⟨rfl, rfl, rfl, by decide +kernel, rfl, by decide +kernel, by decide +kernel⟩
include G_times G_ratio G_mean G_blend G_nothing T in
theorem d_over (F : TopFn K mg "over" "over" s_over P_over) : DefAt P w K mg base CX0 43 "over" P_over (spOver K) := by
  refine F.ok sc_over (fun vs H Q E h => ?_) (fun f cdv A outer s H vs Q E hr h => ?_)
  · obtain ⟨_, _, _, _, _, _, _, rfl, _⟩ := h; rfl
  obtain ⟨m, v, u, x, wt, lo, up, rfl, hm, hv, hwt, hu, hx, llo, lup, q⟩ := h
  have nd := sc_over.nd
  unfold overP at q
  dsimp only at q
  refine ⟨_, (pss_cons (ps_set (i := 4) nd rfl (Or.inl rfl) (pc G_times (hr.mono (by omega)) pass0 (pa_cons (pv 1) (pa_cons (pe_ix (r := rIxT K) ix_tup (pv 3) pe_int (fun _ _ => rfl)) pa_nil)))) (pss_cons (ps_set (i := 5) nd rfl (Or.inl rfl) (pe_ix (r := rIxT K) ix_tup (pv 2) pe_int (fun _ _ => rfl))) (pss_cons (ps_set (i := 6) nd rfl (Or.inr rfl) (pe_tup (pa_cons (pe_op op_mulB (pe_ix (r := rIxT K) ix_tup (pv 4) pe_int (fun _ _ => rfl)) (pe_op op_sub (pe_ix (r := rIxT K) ix_tup (pv 5) pe_int (fun _ _ => rfl)) (pe_ix (r := rIxT K) ix_tup (pv 5) pe_int (fun _ _ => rfl)))) (pa_cons (pe_op op_mulB (pe_ix (r := rIxT K) ix_tup (pv 4) pe_int (fun _ _ => rfl)) (pe_ix (r := rIxT K) ix_tup (pv 5) pe_int (fun _ _ => rfl))) (pa_cons (pe_op op_mulB (pe_op op_sub (pe_ix (r := rIxT K) ix_tup (pv 4) pe_int (fun _ _ => rfl)) (pe_ix (r := rIxT K) ix_tup (pv 4) pe_int (fun _ _ => rfl))) (pe_ix (r := rIxT K) ix_tup (pv 5) pe_int (fun _ _ => rfl))) pa_nil))))) (pss_cons (ps_set (i := 7) nd rfl (Or.inl rfl) (pc G_ratio (hr.mono (by omega)) pass0 (pa_cons (pe_callB (cr_sumT rfl) (by rfl) T.n_sum (by decide +kernel) (pa_cons (pv 6) pa_nil)) (pa_cons (pe_op op_mulB (pe_ix (r := rIxT K) ix_tup (pv 4) pe_int (fun _ _ => rfl)) (pe_ix (r := rIxT K) ix_tup (pv 5) pe_int (fun _ _ => rfl))) pa_nil)))) (pss_cons (ps_if (pt_cmpR op_eq (pe_ix (r := rIxT K) ix_tup (pv 7) pe_int (fun _ _ => rfl)) pe_int (nomark _)) (pss_one (ps_ret (pc0 G_nothing (hr.mono (by omega)) pass0))) pss_nil) (pss_cons (ps_setLc (i := 8) (own := [("part", 9)]) (g := gName 9) (tt := tYes) rfl nd rfl rfl (sw_true rfl rfl rfl (by decide +kernel)) (pi_range1 rfl T.n_range (pa_cons pe_int pa_nil)) (blkOk_by (own := [("part", 9)]) (N := N_over) (sc := defScope s_over) (by decide +kernel)) (fun _ _ _ _ _ => pg_name (i := 9) nd rfl (Or.inl rfl)) (fun _ _ _ _ _ => pts_nil) (fun _ _ _ _ _ => (pc G_mean (hr.mono (by omega)) pass0 (pa_cons (pv 6) (pa_cons (pe_tup (pa_cons (pe_ix (r := rIxT K) ix_tup (pv 3) (pv 9) (fun _ _ => rfl)) (pa_cons (pc G_blend (hr.mono (by omega)) pass0 (pa_cons (pv 0) (pa_cons (pe_ix (r := rIxT K) ix_tup (pv 2) (pv 9) (fun _ _ => rfl)) (pa_cons (pe_ix (r := rIxT K) ix_tup (pv 3) (pv 9) (fun _ _ => rfl)) pa_nil)))) (pa_cons (pe_ix (r := rIxT K) ix_tup (pv 2) (pv 9) (fun _ _ => rfl)) pa_nil)))) pa_nil))))) (pss_one (ps_ret (pe_tup (pa_cons (pe_ix (r := rIxL K) ix_list (pv 8) pe_int (fun _ _ => rfl)) (pa_cons (pe_ix (r := rIxL K) ix_list (pv 8) pe_int (fun _ _ => rfl)) (pa_cons (pe_ix (r := rIxL K) ix_list (pv 8) pe_int (fun _ _ => rfl)) (pa_cons (pv 7) pa_nil))))))))))))), ?_⟩
  obtain ⟨pu, ur, ug, ub, ul, rfl, sU, sur, sug, sub, sul⟩ := hu.get
  obtain ⟨px, xr, xg, xb, xl, rfl, sX, sxr, sxg, sxb, sxl⟩ := hx.get
  obtain ⟨uap, lap⟩ := ap_le hwt lup.up.a lup.a
  have ube := llo.up.a
  have lbe := llo.a
  -- applied
  refine ⟨_, rfl, _, rfl, _, _, 3, _, rfl, rfl, sX, rfl, v, .ref xl, wt, up.a, rfl, hv, ⟨xl, rfl, sxl⟩, pTimes.ofLe hwt.1 lup.up.a hwt.2 lup.a (by rw [NA_eq]; omega), fun a1 H1 s1 h1 => ?_⟩
  obtain ⟨pa, rfl, sA⟩ := h1
  have sU1 := Same.seqT s1 sU
  have sul1 := Same.seqT s1 sul
  generalize hap : wt.mul up.a = ap at uap lap sA q
  -- shares
  refine ⟨_, rfl, _, _, 3, _, rfl, rfl, sU1, rfl, ?_⟩
  refine ⟨_, rfl, _, _, 0, _, rfl, rfl, sA, rfl, _, rfl, _, _, 1, _, rfl, rfl, sul1, rfl, _, rfl, _, _, 0, _, rfl, rfl, sul1, rfl, _, _, rfl, rfl, _, _, rfl, rfl, ?_, _, rfl, _, _, 0, _, rfl, rfl, sA, rfl, _, rfl, _, _, 0, _, rfl, rfl, sul1, rfl, _, _, rfl, rfl, ?_, _, rfl, _, _, 1, _, rfl, rfl, sA, rfl, _, rfl, _, _, 0, _, rfl, rfl, sA, rfl, _, _, rfl, rfl, _, rfl, _, _, 0, _, rfl, rfl, sul1, rfl, _, _, rfl, rfl, ?_, (by show 3 ≤ sizeLine; decide), fun p2 hp2 => ?_⟩
  · rw [sub_cast ube]
    exact MOk.ofLe (i := 16 + NA) (j := NA) (Nat.le_trans uap.le lap) (Nat.le_trans (Nat.sub_le _ _) lbe) (by rw [NA_eq]; omega)
  · exact MOk.ofLe (i := 16 + NA) (j := NA) (Nat.le_trans uap.le lap) (Nat.le_trans ube.le lbe) (by rw [NA_eq]; omega)
  · rw [sub_cast uap]
    exact MOk.ofLe (i := 16 + NA) (j := NA) (Nat.le_trans (Nat.sub_le _ _) lap) (Nat.le_trans ube.le lbe) (by rw [NA_eq]; omega)
  rw [sub_cast ube, sub_cast uap]
  have eS : ([V.int ((ap.n : Int) * ((lo.a.d - lo.a.n : Nat) : Int)), V.int ((ap.n : Int) * (lo.a.n : Int)), V.int (((ap.d - ap.n : Nat) : Int) * (lo.a.n : Int))] : List V) = wV (shares3 ap lo.a) := rfl
  rw [eS]
  have s2 : Same H1 (upd H1 p2 (.tup (wV (shares3 ap lo.a)))) := Same.new hp2
  have sS : SqT K (upd H1 p2 (.tup (wV (shares3 ap lo.a)))) p2 (wV (shares3 ap lo.a)) := .of upd_same
  have s02 := s1.trans s2
  generalize upd H1 p2 (.tup (wV (shares3 ap lo.a))) = H2 at s2 sS s02 ⊢
  have sA2 := Same.seqT s2 sA
  have sul2 := Same.seqT s2 sul1
  have hd : 0 < ap.d * lo.a.d := Nat.mul_pos uap.good.pos ube.good.pos
  have aleT : ap.d * lo.a.d ≤ 2 ^ (16 + NA + NA) := mul_le_pow lap lbe
  -- alpha
  refine ⟨_, rfl, p2, _, rfl, sS, _, rfl, _, _, 1, _, rfl, rfl, sA2, rfl, _, rfl, _, _, 1, _, rfl, rfl, sul2, rfl, _, _, rfl, rfl, MOk.ofLe (i := 16 + NA) (j := NA) lap lbe (by rw [NA_eq]; omega), (shares3 ap lo.a).sum, ap.d * lo.a.d, ?_, hd, fun a2 H3 s3 h3 => ?_⟩
  · rw [sum_cast]
    rfl
  obtain ⟨pl, rfl, sL⟩ := h3
  have s03 := s02.trans s3
  refine ⟨_, rfl, _, _, 0, _, rfl, rfl, sL, rfl, rfl, _, rfl, ?_⟩
  by_cases c : (Ie02.frac (shares3 ap lo.a).sum (ap.d * lo.a.d)).n = 0
  · rw [if_pos c] at q
    refine (if_pos (by rw [c]; rfl)).mpr ?_
    exact ⟨rfl, fun z H4 s4 h4 => q z H4 (s03.trans s4) h4⟩
  rw [if_neg c] at q
  refine (if_neg (by simp; omega)).mpr ?_
  have hs := sum_pos_of hd c
  have sumle : (shares3 ap lo.a).sum ≤ 2 ^ (16 + NA + NA) := Nat.le_trans (shares3_le uap ube) aleT
  let fr : Nat → Frac := fun i => mean (shares3 ap lo.a) [chn up.c i, blendP m (chn lo.c i) (chn up.c i), chn lo.c i]
  refine ⟨3, rfl, by decide, by decide, fun D hD => ?_⟩
  refine lc_range (lo := 0) (n := 3) (fun i H' => Acc K H3 D ((List.range i).map fr) H') (Acc.start hD) ?_ ?_
  · intro i H' hi acc
    have sH := acc.same
    have s0 := s03.trans sH
    obtain ⟨ca, eca, sca⟩ := chan_at (Same.seqT s0 sxr) (Same.seqT s0 sxg) (Same.seqT s0 sxb) (l := xl) hi
    obtain ⟨cb, ecb, scb⟩ := chan_at (Same.seqT s0 sur) (Same.seqT s0 sug) (Same.seqT s0 sub) (l := ul) hi
    obtain ⟨uc, lc⟩ := lim_chn lup i
    obtain ⟨ucb, lcb⟩ := lim_chn llo.toLim i
    refine ⟨rfl, tYes_go ?_⟩
    refine ⟨_, rfl, _, rfl, _, rfl, px, _, _, _, rfl, rfl, Same.seqT s0 sX, atI0 eca, ?_⟩
    refine ⟨_, rfl, _, rfl, _, rfl, pu, _, _, _, rfl, rfl, Same.seqT s0 sU, atI0 ecb, _, rfl, _, rfl, px, _, _, _, rfl, rfl, Same.seqT s0 sX, atI0 eca, ?_⟩
    refine ⟨m, _, _, chn lo.c i, chn up.c i, rfl, hm, ⟨cb, rfl, scb⟩, ⟨ca, rfl, sca⟩, blk_of ucb uc lcb lc (by rw [NL_eq, NU_eq]; omega), fun z H5 s5 h5 => ?_⟩
    have s05 := s0.trans s5
    refine ⟨_, rfl, _, rfl, pu, _, _, _, rfl, rfl, Same.seqT s05 sU, atI0 ecb, (by show 3 ≤ sizeLine; decide), fun pt hpt => ?_⟩
    have s6 := Same.new (o := .tup [.ref ca, z, .ref cb]) hpt
    refine ⟨p2, pt, shares3 ap lo.a, [.ref ca, z, .ref cb], [chn up.c i, blendP m (chn lo.c i) (chn up.c i), chn lo.c i], rfl, Same.seqT (((s3.trans sH).trans s5).trans s6) sS, .of upd_same, .cons ⟨ca, rfl, Same.seqT (s5.trans s6) sca⟩ (.cons (h5.mono s6) (.cons ⟨cb, rfl, Same.seqT (s5.trans s6) scb⟩ .nil)), ?_, fun y H7 s7 h7 => ?_⟩
    · exact meanOk3 m rfl hs sumle uc ucb lc lcb rfl (by rw [NA_eq, NL_eq, NU_eq]; omega)
    · have e := acc.step ((s5.trans s6).trans s7) h7 (by rw [List.length_map, List.length_range]; omega)
      rw [← range_more] at e
      exact e
  · intro H' acc
    obtain ⟨l, hl, pl3⟩ := acc.at_
    obtain ⟨x0, x1, x2, rfl, f0, f1, f2⟩ := FsAt.three pl3
    have sD : SqL K H' D [.ref x0, .ref x1, .ref x2] := .of hl
    refine ⟨_, rfl, _, _, 0, _, rfl, rfl, sD, rfl, _, rfl, _, _, 1, _, rfl, rfl, sD, rfl, _, rfl, _, _, 2, _, rfl, rfl, sD, rfl, _, rfl, (by show 4 ≤ sizeLine; decide), fun p hp => ?_⟩
    exact q _ _ ((s03.trans acc.same).trans (Same.new hp)) (PAt.mk4 (c := Colour.map2 (fun B S => mean (shares3 ap lo.a) [S, blendP m B S, B]) lo.c up.c) (a := Ie02.frac (shares3 ap lo.a).sum (ap.d * lo.a.d)) hp f0 f1 f2 (Same.seqT acc.same sL))
abbrev s_atop : Stmt := topS 46
abbrev N_atop : List Str := ["mode", "weight", "lower", "upper", "applied", "shares", "colour", "part"]
abbrev P_atop : List Str := ["mode", "weight", "lower", "upper"]
theorem sc_atop : FnScope N_atop P_atop (defScope s_atop) := ⟨rfl, rfl, rfl, by decide +kernel, rfl, by decide +kernel, by decide +kernel⟩
include G_times G_mean G_blend G_nothing T in
theorem d_atop (F : TopFn K mg "atop" "atop" s_atop P_atop) : DefAt P w K mg base CX0 43 "atop" P_atop (spAtop K) := by
  refine F.ok sc_atop (fun vs H Q E h => ?_) (fun f cdv A outer s H vs Q E hr h => ?_)
  · obtain ⟨_, _, _, _, _, _, _, rfl, _⟩ := h; rfl
  obtain ⟨m, v, u, x, wt, lo, up, rfl, hm, hv, hwt, hu, hx, llo, lup, q⟩ := h
  have nd := sc_atop.nd
  unfold atopP at q
  refine ⟨_, (pss_cons (ps_if (pt_cmpR op_eq (pe_ix (r := rIxT K) ix_tup (pe_ix (r := rIxT K) ix_tup (pv 2) pe_int (fun _ _ => rfl)) pe_int (fun _ _ => rfl)) pe_int (nomark _)) (pss_one (ps_ret (pc0 G_nothing (hr.mono (by omega)) pass0))) pss_nil) (pss_cons (ps_set (i := 4) nd rfl (Or.inl rfl) (pc G_times (hr.mono (by omega)) pass0 (pa_cons (pv 1) (pa_cons (pe_ix (r := rIxT K) ix_tup (pv 3) pe_int (fun _ _ => rfl)) pa_nil)))) (pss_cons (ps_set (i := 5) nd rfl (Or.inr rfl) (pe_tup (pa_cons (pe_op op_sub (pe_ix (r := rIxT K) ix_tup (pv 4) pe_int (fun _ _ => rfl)) (pe_ix (r := rIxT K) ix_tup (pv 4) pe_int (fun _ _ => rfl))) (pa_cons (pe_ix (r := rIxT K) ix_tup (pv 4) pe_int (fun _ _ => rfl)) pa_nil)))) (pss_cons (ps_setLc (i := 6) (own := [("part", 7)]) (g := gName 7) (tt := tYes) rfl nd rfl rfl (sw_true rfl rfl rfl (by decide +kernel)) (pi_range1 rfl T.n_range (pa_cons pe_int pa_nil)) (blkOk_by (own := [("part", 7)]) (N := N_atop) (sc := defScope s_atop) (by decide +kernel)) (fun _ _ _ _ _ => pg_name (i := 7) nd rfl (Or.inl rfl)) (fun _ _ _ _ _ => pts_nil) (fun _ _ _ _ _ => (pc G_mean (hr.mono (by omega)) pass0 (pa_cons (pv 5) (pa_cons (pe_tup (pa_cons (pe_ix (r := rIxT K) ix_tup (pv 2) (pv 7) (fun _ _ => rfl)) (pa_cons (pc G_blend (hr.mono (by omega)) pass0 (pa_cons (pv 0) (pa_cons (pe_ix (r := rIxT K) ix_tup (pv 2) (pv 7) (fun _ _ => rfl)) (pa_cons (pe_ix (r := rIxT K) ix_tup (pv 3) (pv 7) (fun _ _ => rfl)) pa_nil)))) pa_nil))) pa_nil))))) (pss_one (ps_ret (pe_tup (pa_cons (pe_ix (r := rIxL K) ix_list (pv 6) pe_int (fun _ _ => rfl)) (pa_cons (pe_ix (r := rIxL K) ix_list (pv 6) pe_int (fun _ _ => rfl)) (pa_cons (pe_ix (r := rIxL K) ix_list (pv 6) pe_int (fun _ _ => rfl)) (pa_cons (pe_ix (r := rIxT K) ix_tup (pv 2) pe_int (fun _ _ => rfl)) pa_nil))))))))))), ?_⟩
  obtain ⟨pu, ur, ug, ub, ul, rfl, sU, sur, sug, sub, sul⟩ := hu.get
  obtain ⟨px, xr, xg, xb, xl, rfl, sX, sxr, sxg, sxb, sxl⟩ := hx.get
  refine ⟨_, rfl, _, _, 3, _, rfl, rfl, sU, rfl, _, _, 0, _, rfl, rfl, sul, rfl, rfl, _, rfl, ?_⟩
  by_cases c : lo.a.n = 0
  · rw [if_pos c] at q
    refine (if_pos (by rw [c]; rfl)).mpr ?_
    exact ⟨rfl, fun z H4 s4 h4 => q z H4 s4 h4⟩
  rw [if_neg c] at q
  refine (if_neg (by simp; omega)).mpr ?_
  obtain ⟨uap, lap⟩ := ap_le hwt lup.up.a lup.a
  refine ⟨_, rfl, _, rfl, _, _, 3, _, rfl, rfl, sX, rfl, v, .ref xl, wt, up.a, rfl, hv, ⟨xl, rfl, sxl⟩, pTimes.ofLe hwt.1 lup.up.a hwt.2 lup.a (by rw [NA_eq]; omega), fun a1 H1 s1 h1 => ?_⟩
  obtain ⟨pa, rfl, sA⟩ := h1
  generalize hap : wt.mul up.a = ap at uap lap sA q
  refine ⟨_, rfl, _, _, 1, _, rfl, rfl, sA, rfl, _, rfl, _, _, 0, _, rfl, rfl, sA, rfl, _, _, rfl, rfl, _, rfl, _, _, 0, _, rfl, rfl, sA, rfl, (by show 2 ≤ sizeLine; decide), fun p2 hp2 => ?_⟩
  have eS : HO.tup [V.int ((ap.d : Int) - (ap.n : Int)), V.int (ap.n : Int)] = HO.tup (wV (shares2 ap)) := by
    rw [sub_cast uap]
    rfl
  rw [eS]
  have s2 : Same H1 (upd H1 p2 (.tup (wV (shares2 ap)))) := Same.new hp2
  have sS : SqT K (upd H1 p2 (.tup (wV (shares2 ap)))) p2 (wV (shares2 ap)) := .of upd_same
  have s03 := s1.trans s2
  generalize upd H1 p2 (.tup (wV (shares2 ap))) = H3 at s2 sS s03 ⊢
  have hs := shares2_pos uap
  have sumle : (shares2 ap).sum ≤ 2 ^ (16 + NA) := by rw [shares2_eq uap]; exact lap
  let fr : Nat → Frac := fun i => mean (shares2 ap) [chn lo.c i, blendP m (chn lo.c i) (chn up.c i)]
  refine ⟨3, rfl, by decide, by decide, fun D hD => ?_⟩
  refine lc_range (lo := 0) (n := 3) (fun i H' => Acc K H3 D ((List.range i).map fr) H') (Acc.start hD) ?_ ?_
  · intro i H' hi acc
    have sH := acc.same
    have s0 := s03.trans sH
    obtain ⟨ca, eca, sca⟩ := chan_at (Same.seqT s0 sxr) (Same.seqT s0 sxg) (Same.seqT s0 sxb) (l := xl) hi
    obtain ⟨cb, ecb, scb⟩ := chan_at (Same.seqT s0 sur) (Same.seqT s0 sug) (Same.seqT s0 sub) (l := ul) hi
    obtain ⟨uc, lc⟩ := lim_chn lup i
    obtain ⟨ucb, lcb⟩ := lim_chn llo.toLim i
    refine ⟨rfl, tYes_go ?_⟩
    refine ⟨_, rfl, _, rfl, _, rfl, pu, _, _, _, rfl, rfl, Same.seqT s0 sU, atI0 ecb, ?_⟩
    refine ⟨_, rfl, _, rfl, _, rfl, pu, _, _, _, rfl, rfl, Same.seqT s0 sU, atI0 ecb, _, rfl, _, rfl, px, _, _, _, rfl, rfl, Same.seqT s0 sX, atI0 eca, ?_⟩
    refine ⟨m, _, _, chn lo.c i, chn up.c i, rfl, hm, ⟨cb, rfl, scb⟩, ⟨ca, rfl, sca⟩, blk_of ucb uc lcb lc (by rw [NL_eq, NU_eq]; omega), fun z H5 s5 h5 => ?_⟩
    refine ⟨(by show 2 ≤ sizeLine; decide), fun pt hpt => ?_⟩
    have s6 := Same.new (o := .tup [.ref cb, z]) hpt
    refine ⟨p2, pt, shares2 ap, [.ref cb, z], [chn lo.c i, blendP m (chn lo.c i) (chn up.c i)], rfl, Same.seqT ((sH.trans s5).trans s6) sS, .of upd_same, .cons ⟨cb, rfl, Same.seqT (s5.trans s6) scb⟩ (.cons (h5.mono s6) .nil), ?_, fun y H7 s7 h7 => ?_⟩
    · exact meanOk2 m rfl hs sumle uc ucb lc lcb rfl (by rw [NA_eq, NL_eq, NU_eq]; omega)
    · have e := acc.step ((s5.trans s6).trans s7) h7 (by rw [List.length_map, List.length_range]; omega)
      rw [← range_more] at e
      exact e
  · intro H' acc
    obtain ⟨l, hl, pl3⟩ := acc.at_
    obtain ⟨x0, x1, x2, rfl, f0, f1, f2⟩ := FsAt.three pl3
    have sD : SqL K H' D [.ref x0, .ref x1, .ref x2] := .of hl
    have s0 := s03.trans acc.same
    refine ⟨_, rfl, _, _, 0, _, rfl, rfl, sD, rfl, _, rfl, _, _, 1, _, rfl, rfl, sD, rfl, _, rfl, _, _, 2, _, rfl, rfl, sD, rfl, _, rfl, _, _, 3, _, rfl, rfl, Same.seqT s0 sU, rfl, (by show 4 ≤ sizeLine; decide), fun p hp => ?_⟩
    exact q _ _ (s0.trans (Same.new hp)) (PAt.mk4 (c := Colour.map2 (fun B S => mean (shares2 ap) [B, blendP m B S]) lo.c up.c) (a := lo.a) hp f0 f1 f2 (Same.seqT s0 sul))
abbrev s_mix : Stmt := topS 47
abbrev N_mix : List Str := ["weight", "before", "after", "old", "new", "shares", "alpha", "colour", "part"]
abbrev P_mix : List Str := ["weight", "before", "after"]
theorem sc_mix : FnScope N_mix P_mix (defScope s_mix) := ⟨rfl, rfl, rfl, by decide +kernel, rfl, by decide +kernel, by decide +kernel⟩
include G_times G_complement G_ratio G_mean G_nothing T in
theorem d_mix (F : TopFn K mg "mix" "mix" s_mix P_mix) : DefAt P w K mg base CX0 43 "mix" P_mix (spMix K) := by
  refine F.ok sc_mix (fun vs H Q E h => ?_) (fun f cdv A outer s H vs Q E hr h => ?_)
  · obtain ⟨_, _, _, _, _, _, rfl, _⟩ := h; rfl
  obtain ⟨v, u, x, wt, lo, up, rfl, hv, hwt, hu, hx, llo, lup, q⟩ := h
  have nd := sc_mix.nd
  unfold mixP at q
  dsimp only at q
  refine ⟨_, (pss_cons (ps_set (i := 3) nd rfl (Or.inl rfl) (pc G_times (hr.mono (by omega)) pass0 (pa_cons (pc G_complement (hr.mono (by omega)) pass0 (pa_cons (pv 0) pa_nil)) (pa_cons (pe_ix (r := rIxT K) ix_tup (pv 1) pe_int (fun _ _ => rfl)) pa_nil)))) (pss_cons (ps_set (i := 4) nd rfl (Or.inl rfl) (pc G_times (hr.mono (by omega)) pass0 (pa_cons (pv 0) (pa_cons (pe_ix (r := rIxT K) ix_tup (pv 2) pe_int (fun _ _ => rfl)) pa_nil)))) (pss_cons (ps_set (i := 5) nd rfl (Or.inr rfl) (pe_tup (pa_cons (pe_op op_mulB (pe_ix (r := rIxT K) ix_tup (pv 3) pe_int (fun _ _ => rfl)) (pe_ix (r := rIxT K) ix_tup (pv 4) pe_int (fun _ _ => rfl))) (pa_cons (pe_op op_mulB (pe_ix (r := rIxT K) ix_tup (pv 4) pe_int (fun _ _ => rfl)) (pe_ix (r := rIxT K) ix_tup (pv 3) pe_int (fun _ _ => rfl))) pa_nil)))) (pss_cons (ps_set (i := 6) nd rfl (Or.inl rfl) (pc G_ratio (hr.mono (by omega)) pass0 (pa_cons (pe_callB (cr_sumT rfl) (by rfl) T.n_sum (by decide +kernel) (pa_cons (pv 5) pa_nil)) (pa_cons (pe_op op_mulB (pe_ix (r := rIxT K) ix_tup (pv 3) pe_int (fun _ _ => rfl)) (pe_ix (r := rIxT K) ix_tup (pv 4) pe_int (fun _ _ => rfl))) pa_nil)))) (pss_cons (ps_if (pt_cmpR op_eq (pe_ix (r := rIxT K) ix_tup (pv 6) pe_int (fun _ _ => rfl)) pe_int (nomark _)) (pss_one (ps_ret (pc0 G_nothing (hr.mono (by omega)) pass0))) pss_nil) (pss_cons (ps_setLc (i := 7) (own := [("part", 8)]) (g := gName 8) (tt := tYes) rfl nd rfl rfl (sw_true rfl rfl rfl (by decide +kernel)) (pi_range1 rfl T.n_range (pa_cons pe_int pa_nil)) (blkOk_by (own := [("part", 8)]) (N := N_mix) (sc := defScope s_mix) (by decide +kernel)) (fun _ _ _ _ _ => pg_name (i := 8) nd rfl (Or.inl rfl)) (fun _ _ _ _ _ => pts_nil) (fun _ _ _ _ _ => (pc G_mean (hr.mono (by omega)) pass0 (pa_cons (pv 5) (pa_cons (pe_tup (pa_cons (pe_ix (r := rIxT K) ix_tup (pv 1) (pv 8) (fun _ _ => rfl)) (pa_cons (pe_ix (r := rIxT K) ix_tup (pv 2) (pv 8) (fun _ _ => rfl)) pa_nil))) pa_nil))))) (pss_one (ps_ret (pe_tup (pa_cons (pe_ix (r := rIxL K) ix_list (pv 7) pe_int (fun _ _ => rfl)) (pa_cons (pe_ix (r := rIxL K) ix_list (pv 7) pe_int (fun _ _ => rfl)) (pa_cons (pe_ix (r := rIxL K) ix_list (pv 7) pe_int (fun _ _ => rfl)) (pa_cons (pv 6) pa_nil))))))))))))), ?_⟩
  obtain ⟨pu, ur, ug, ub, ul, rfl, sU, sur, sug, sub, sul⟩ := hu.get
  obtain ⟨px, xr, xg, xb, xl, rfl, sX, sxr, sxg, sxb, sxl⟩ := hx.get
  have hwc : WOk (compl wt) := ⟨compl_U hwt.1, hwt.2⟩
  obtain ⟨uo, lo'⟩ := ap_le hwc llo.up.a llo.a
  obtain ⟨un, ln⟩ := ap_le hwt lup.up.a lup.a
  refine ⟨_, rfl, v, wt, rfl, hv, hwt.1.le, fun z0 H0 s0 h0 => ?_⟩
  have sU0 := Same.seqT s0 sU
  refine ⟨_, rfl, _, _, 3, _, rfl, rfl, sU0, rfl, z0, .ref ul, compl wt, lo.a, rfl, h0, ⟨ul, rfl, Same.seqT s0 sul⟩, pTimes.ofLe hwc.1 llo.up.a hwc.2 llo.a (by rw [NA_eq]; omega), fun a1 H1 s1 h1 => ?_⟩
  obtain ⟨pa, rfl, sA⟩ := h1
  have s01 := s0.trans s1
  have sX1 := Same.seqT s01 sX
  refine ⟨_, rfl, _, rfl, _, _, 3, _, rfl, rfl, sX1, rfl, v, .ref xl, wt, up.a, rfl, hv.mono s01, ⟨xl, rfl, Same.seqT s01 sxl⟩, pTimes.ofLe hwt.1 lup.up.a hwt.2 lup.a (by rw [NA_eq]; omega), fun a2 H2 s2 h2 => ?_⟩
  obtain ⟨pb, rfl, sB⟩ := h2
  have sA2 := Same.seqT s2 sA
  have s02 := s01.trans s2
  have va : val ((compl wt).mul lo.a) + val (wt.mul up.a) ≤ 1 := by
    rw [val_mul (compl_U hwt.1).good llo.up.a.good, val_compl hwt.1, val_mul hwt.1.good lup.up.a.good]
    exact mix_bound hwt.1.nn hwt.1.le1 llo.up.a.le1 lup.up.a.le1
  generalize (compl wt).mul lo.a = o at uo lo' sA sA2 q va
  generalize wt.mul up.a = n at un ln sB q va
  refine ⟨_, rfl, _, _, 0, _, rfl, rfl, sA2, rfl, _, rfl, _, _, 1, _, rfl, rfl, sB, rfl, _, _, rfl, rfl, MOk.ofLe (i := 16 + NA) (j := 16 + NA) (Nat.le_trans uo.le lo') ln (by rw [NA_eq]; omega), _, rfl, _, _, 0, _, rfl, rfl, sB, rfl, _, rfl, _, _, 1, _, rfl, rfl, sA2, rfl, _, _, rfl, rfl, MOk.ofLe (i := 16 + NA) (j := 16 + NA) (Nat.le_trans un.le ln) lo' (by rw [NA_eq]; omega), (by show 2 ≤ sizeLine; decide), fun p2 hp2 => ?_⟩
  have eS : HO.tup [V.int ((o.n : Int) * (n.d : Int)), V.int ((n.n : Int) * (o.d : Int))] = HO.tup (wV (sharesM o n)) := rfl
  rw [eS]
  have s3 : Same H2 (upd H2 p2 (.tup (wV (sharesM o n)))) := Same.new hp2
  have sS : SqT K (upd H2 p2 (.tup (wV (sharesM o n)))) p2 (wV (sharesM o n)) := .of upd_same
  have s03 := s02.trans s3
  generalize upd H2 p2 (.tup (wV (sharesM o n))) = H3 at s3 sS s03 ⊢
  have sA3 := Same.seqT s3 sA2
  have sB3 := Same.seqT s3 sB
  have hd : 0 < o.d * n.d := Nat.mul_pos uo.good.pos un.good.pos
  refine ⟨_, rfl, p2, _, rfl, sS, _, rfl, _, _, 1, _, rfl, rfl, sA3, rfl, _, rfl, _, _, 1, _, rfl, rfl, sB3, rfl, _, _, rfl, rfl, MOk.ofLe (i := 16 + NA) (j := 16 + NA) lo' ln (by rw [NA_eq]; omega), (sharesM o n).sum, o.d * n.d, ?_, hd, fun a3 H4 s4 h4 => ?_⟩
  · rw [sum_cast]
    rfl
  obtain ⟨pl, rfl, sL⟩ := h4
  have s04 := s03.trans s4
  refine ⟨_, rfl, _, _, 0, _, rfl, rfl, sL, rfl, rfl, _, rfl, ?_⟩
  by_cases c : (Ie02.frac (sharesM o n).sum (o.d * n.d)).n = 0
  · rw [if_pos c] at q
    refine (if_pos (by rw [c]; rfl)).mpr ?_
    exact ⟨rfl, fun z H5 s5 h5 => q z H5 (s04.trans s5) h5⟩
  rw [if_neg c] at q
  refine (if_neg (by simp; omega)).mpr ?_
  have hs := sum_pos_of hd c
  have sumle : (sharesM o n).sum ≤ 2 ^ (16 + NA + (16 + NA)) := Nat.le_trans (sharesM_le uo un va) (mul_le_pow lo' ln)
  let fr : Nat → Frac := fun i => mean (sharesM o n) [chn lo.c i, chn up.c i]
  refine ⟨3, rfl, by decide, by decide, fun D hD => ?_⟩
  refine lc_range (lo := 0) (n := 3) (fun i H' => Acc K H4 D ((List.range i).map fr) H') (Acc.start hD) ?_ ?_
  · intro i H' hi acc
    have sH := acc.same
    have s0 := s04.trans sH
    obtain ⟨ca, eca, sca⟩ := chan_at (Same.seqT s0 sxr) (Same.seqT s0 sxg) (Same.seqT s0 sxb) (l := xl) hi
    obtain ⟨cb, ecb, scb⟩ := chan_at (Same.seqT s0 sur) (Same.seqT s0 sug) (Same.seqT s0 sub) (l := ul) hi
    obtain ⟨uc, lc⟩ := lim_chn lup.toLim i
    obtain ⟨ucb, lcb⟩ := lim_chn llo.toLim i
    refine ⟨rfl, tYes_go ?_⟩
    refine ⟨_, rfl, _, rfl, _, rfl, pu, _, _, _, rfl, rfl, Same.seqT s0 sU, atI0 ecb, _, rfl, _, rfl, px, _, _, _, rfl, rfl, Same.seqT s0 sX, atI0 eca, (by show 2 ≤ sizeLine; decide), fun pt hpt => ?_⟩
    have s6 := Same.new (o := .tup [.ref cb, .ref ca]) hpt
    refine ⟨p2, pt, sharesM o n, [.ref cb, .ref ca], [chn lo.c i, chn up.c i], rfl, Same.seqT ((s4.trans sH).trans s6) sS, .of upd_same, .cons ⟨cb, rfl, Same.seqT s6 scb⟩ (.cons ⟨ca, rfl, Same.seqT s6 sca⟩ .nil), ?_, fun y H7 s7 h7 => ?_⟩
    · exact meanOkM rfl hs sumle ucb uc lcb lc (by rw [NA_eq, NL_eq]; omega)
    · have e := acc.step (s6.trans s7) h7 (by rw [List.length_map, List.length_range]; omega)
      rw [← range_more] at e
      exact e
  · intro H' acc
    obtain ⟨l, hl, pl3⟩ := acc.at_
    obtain ⟨x0, x1, x2, rfl, f0, f1, f2⟩ := FsAt.three pl3
    have sD : SqL K H' D [.ref x0, .ref x1, .ref x2] := .of hl
    refine ⟨_, rfl, _, _, 0, _, rfl, rfl, sD, rfl, _, rfl, _, _, 1, _, rfl, rfl, sD, rfl, _, rfl, _, _, 2, _, rfl, rfl, sD, rfl, _, rfl, (by show 4 ≤ sizeLine; decide), fun p hp => ?_⟩
    exact q _ _ ((s04.trans acc.same).trans (Same.new hp)) (PAt.mk4 (c := Colour.map2 (fun x y => mean (sharesM o n) [x, y]) lo.c up.c) (a := Ie02.frac (sharesM o n).sum (o.d * n.d)) hp f0 f1 f2 (Same.seqT acc.same sL))
end
end
end LH

set_option Elab.async false
set_option linter.all false
set_option maxRecDepth 100000
set_option maxHeartbeats 4000000
namespace LH
open PySem PySem.Spec PyProof.Rows L2
open Ie02 (Frac Px Colour)
open LM
def natV (ns : List Nat) : List V := ns.map fun n : Nat => V.int (n : Int)
theorem map_take_more {α β : Type} {l : List α} {f : α → β} {i : Nat} {x : α} (h : l[i]? = some x) : (l.take (i + 1)).map f = (l.take i).map f ++ [f x] := by
  rw [take_more h, List.map_append]
  rfl
theorem natV_at {ns : List Nat} {i : Nat} {v : V} (h : (natV ns)[i]? = some v) : ∃ n : Nat, ns[i]? = some n ∧ v = .int n := by
  unfold natV at h
  rw [List.getElem?_map] at h
  cases e : ns[i]? with
  | none => rw [e] at h; cases h
  | some n => rw [e] at h; exact ⟨n, rfl, (Option.some.inj h).symm⟩
theorem FsAt.pix {K : PySem.W.Frag} {H : Hp} {a : Addr} {xs : List V} {p : Px} (h : FsAt K H xs (pxL p)) (s : SqT K H a xs) : PAt K H (.ref a) p := ⟨a, xs, rfl, s, h⟩
def bytePx (q : Nat × Nat × Nat × Nat) : Px := ⟨⟨Ie02.ofByte q.1, Ie02.ofByte q.2.1, Ie02.ofByte q.2.2.1⟩, Ie02.ofByte q.2.2.2⟩
def fourL (q : Nat × Nat × Nat × Nat) : List Nat := [q.1, q.2.1, q.2.2.1, q.2.2.2]
section
variable {P : Program} {w : World} {K : PySem.W.Frag} {mg : Str → Option Value} {base : Heap}
def spPixB (K : PySem.W.Frag) : Sp := fun vs H Q _ => ∃ (a : Addr) (q : Nat × Nat × Nat × Nat), vs = [.ref a] ∧ SqT K H a (natV (fourL q)) ∧ ∀ z H', Same H H' → PAt K H' z (bytePx q) → Q z H'
def spOfByte (K : PySem.W.Frag) : Sp := fun vs H Q _ => ∃ k : Nat, vs = [.int k] ∧ ∀ z H', Same H H' → FAt K H' z (Ie02.ofByte k) → Q z H'
def spAsByte (K : PySem.W.Frag) : Sp := fun vs H Q _ => ∃ v q, vs = [v] ∧ FAt K H v q ∧ 0 < q.d ∧ Q (.int (Ie02.toByte q : Nat)) H
abbrev s_pixel_of_bytes : Stmt := topS 43
abbrev N_pixel_of_bytes : List Str := ["four", "byte"]
abbrev P_pixel_of_bytes : List Str := ["four"]
theorem sc_pixel_of_bytes : FnScope N_pixel_of_bytes P_pixel_of_bytes (defScope s_pixel_of_bytes) := ⟨rfl, rfl, rfl, by decide +kernel, rfl, by decide +kernel, by decide +kernel⟩
theorem d_pixel_of_bytes (G_of_byte : DefAt P w K mg base CX0 38 "of_byte" P_of_byte (spOfByte K)) (T : TB mg) (F : TopFn K mg "pixel_of_bytes" "pixel_of_bytes" s_pixel_of_bytes P_pixel_of_bytes) : DefAt P w K mg base CX0 40 "pixel_of_bytes" P_pixel_of_bytes (spPixB K) := by
  refine F.ok sc_pixel_of_bytes (fun vs H Q E h => ?_) (fun f cdv A outer s H vs Q E hr h => ?_)
  · obtain ⟨_, _, rfl, _⟩ := h; rfl
  obtain ⟨a, q4, rfl, hS, q⟩ := h
  have nd := sc_pixel_of_bytes.nd
  refine ⟨_, (pss_one (ps_ret (pe_callTy call_tuple_of (by rfl) T.n_tuple (by decide +kernel) (pa_cons (pe_lc (own := [("byte", 1)]) (g := gName 1) (tt := tYes) rfl nd (pi_tup (pv 0)) (blkOk_by (own := [("byte", 1)]) (N := N_pixel_of_bytes) (sc := defScope s_pixel_of_bytes) (by decide +kernel)) (fun _ _ _ _ _ => pg_name (i := 1) nd rfl (Or.inl rfl)) (fun _ _ _ _ _ => pts_nil) (fun _ _ _ _ _ => (pc G_of_byte (hr.mono (by omega)) pass0 (pa_cons (pv 1) pa_nil)))) pa_nil)))), ?_⟩
  refine ⟨_, rfl, a, rfl, ⟨_, hS⟩, fun D hD => ?_⟩
  refine lc_tup (K := K) (a := a) (xs := natV (fourL q4)) (fun i H' => Acc K H D (((fourL q4).take i).map Ie02.ofByte) H') (Acc.start hD) (fun i H' _ acc => Same.seqT acc.same hS) ?_ ?_
  · intro i x H' hi acc
    obtain ⟨n, hn, rfl⟩ := natV_at hi
    refine ⟨rfl, tYes_go ?_⟩
    refine ⟨_, rfl, n, rfl, fun z H1 s1 h1 => ?_⟩
    have e := acc.step s1 h1 (by rw [List.length_map, List.length_take]; show min i 4 < 1000; omega)
    rw [← map_take_more hn] at e
    exact e
  · intro H' acc
    obtain ⟨l, hl, hp⟩ := acc.at_
    refine ⟨D, l, rfl, .inl ⟨.of hl, fun p hp0 => ?_⟩⟩
    refine q _ _ (acc.same.trans (Same.new hp0)) (FsAt.pix (p := bytePx q4) ?_ (.of upd_same))
    exact FsAt.mono hp (Same.new hp0)
def spBytes (K : PySem.W.Frag) : Sp := fun vs H Q _ => ∃ (v : V) (p : Px), vs = [v] ∧ PAt K H v p ∧ UP p ∧ ∀ D H', H D = none → Same H H' → H' D = some (.lst (natV (Ie02.bytes p))) → Q (.ref D) H'
/-- whole numbers so far -/
structure AccN (H1 : Hp) (D : Addr) (ns : List Nat) (H : Hp) : Prop where
  same : Same H1 H
  new : H1 D = none
  at_ : H D = some (.lst (natV ns))
theorem AccN.start {H1 : Hp} {D : Addr} (n : H1 D = none) : AccN H1 D [] (upd H1 D (.lst [])) := ⟨Same.new n, n, upd_same⟩
theorem AccN.step {H1 H H4 : Hp} {D : Addr} {ns : List Nat} {k : Nat} (A : AccN H1 D ns H) (s : Same H H4) (hl : ns.length < 1000) : ∃ acc, H4 D = some (.lst acc) ∧ acc.length < sizeLine ∧ AccN H1 D (ns ++ [k]) (upd H4 D (.lst (acc ++ [.int k]))) := by
  refine ⟨natV ns, s D _ A.at_, by unfold natV; rw [List.length_map]; exact Nat.lt_trans hl (by decide), Same.updNew (A.same.trans s) A.new, A.new, ?_⟩
  rw [upd_same]
  unfold natV
  rw [List.map_append]
  rfl
abbrev s_bytes_of_pixel : Stmt := topS 44
abbrev N_bytes_of_pixel : List Str := ["pixel", "part"]
abbrev P_bytes_of_pixel : List Str := ["pixel"]
theorem sc_bytes_of_pixel : FnScope N_bytes_of_pixel P_bytes_of_pixel (defScope s_bytes_of_pixel) := ⟨rfl, rfl, rfl, by decide +kernel, rfl, by decide +kernel, by decide +kernel⟩
theorem d_bytes_of_pixel (G_as_byte : DefAt P w K mg base CX0 38 "as_byte" P_as_byte (spAsByte K)) (T : TB mg) (F : TopFn K mg "bytes_of_pixel" "bytes_of_pixel" s_bytes_of_pixel P_bytes_of_pixel) : DefAt P w K mg base CX0 40 "bytes_of_pixel" P_bytes_of_pixel (spBytes K) := by
  refine F.ok sc_bytes_of_pixel (fun vs H Q E h => ?_) (fun f cdv A outer s H vs Q E hr h => ?_)
  · obtain ⟨_, _, rfl, _⟩ := h; rfl
  obtain ⟨v, p, rfl, ⟨a, xs, rfl, hS, hx⟩, up, q⟩ := h
  have nd := sc_bytes_of_pixel.nd
  refine ⟨_, (pss_one (ps_ret (pe_lc (own := [("part", 1)]) (g := gName 1) (tt := tYes) rfl nd (pi_tup (pv 0)) (blkOk_by (own := [("part", 1)]) (N := N_bytes_of_pixel) (sc := defScope s_bytes_of_pixel) (by decide +kernel)) (fun _ _ _ _ _ => pg_name (i := 1) nd rfl (Or.inl rfl)) (fun _ _ _ _ _ => pts_nil) (fun _ _ _ _ _ => (pc G_as_byte (hr.mono (by omega)) pass0 (pa_cons (pv 1) pa_nil)))))), ?_⟩
  refine ⟨_, rfl, a, rfl, ⟨_, hS⟩, fun D hD => ?_⟩
  refine lc_tup (K := K) (a := a) (xs := xs) (fun i H' => AccN H D (((pxL p).take i).map Ie02.toByte) H') (AccN.start hD) (fun i H' _ acc => Same.seqT acc.same hS) ?_ ?_
  · intro i x H' hi acc
    obtain ⟨c, hc, fx⟩ := Paired.at hx hi
    have gc : 0 < c.d := by
      have hm := List.mem_of_getElem? hc
      simp only [pxL, List.mem_cons, List.not_mem_nil, or_false] at hm
      rcases hm with rfl | rfl | rfl | rfl
      · exact up.c.r.good.pos
      · exact up.c.g.good.pos
      · exact up.c.b.good.pos
      · exact up.a.good.pos
    refine ⟨rfl, tYes_go ?_⟩
    refine ⟨_, rfl, x, c, rfl, fx.mono acc.same, gc, ?_⟩
    have e := acc.step (k := Ie02.toByte c) (Same.refl _) (by rw [List.length_map, List.length_take]; show min i 4 < 1000; omega)
    rw [← map_take_more hc] at e
    exact e
  · intro H' acc
    have e : ((pxL p).take xs.length).map Ie02.toByte = Ie02.bytes p := by rw [hx.length]; rfl
    have h := acc.at_
    rw [e] at h
    exact q D H' hD acc.same h
abbrev s_nearer_to_its_end : Stmt := topS 48
abbrev N_nearer_to_its_end : List Str := ["channel"]
abbrev P_nearer_to_its_end : List Str := ["channel"]
theorem sc_nearer_to_its_end : FnScope N_nearer_to_its_end P_nearer_to_its_end (defScope s_nearer_to_its_end) := ⟨rfl, rfl, rfl, by decide +kernel, rfl, by decide +kernel, by decide +kernel⟩
section
variable (G_times : DefAt P w K mg base CX0 38 "times" P_times (spF2 K Frac.mul pTimes))
variable (G_complement : DefAt P w K mg base CX0 38 "complement" P_complement (spF1 K compl fun a => a.n ≤ a.d))
variable (G_is_at_most_half : DefAt P w K mg base CX0 38 "is_at_most_half" P_is_at_most_half (spT1 K fun a => decide (2 * a.n ≤ a.d)))
include G_times G_complement G_is_at_most_half in
theorem d_nearer_to_its_end (F : TopFn K mg "nearer_to_its_end" "nearer_to_its_end" s_nearer_to_its_end P_nearer_to_its_end) : DefAt P w K mg base CX0 40 "nearer_to_its_end" P_nearer_to_its_end (spF1 K nearP U) := by
  refine F.ok sc_nearer_to_its_end (fun vs H Q E h => ?_) (fun f cdv A outer s H vs Q E hr h => ?_)
  · obtain ⟨_, _, rfl, _⟩ := h; rfl
  obtain ⟨v, a, rfl, hv, ua, q⟩ := h
  have nd := sc_nearer_to_its_end.nd
  unfold nearP at q
  refine ⟨_, (pss_cons (ps_if (pt_val (pc G_is_at_most_half (hr.mono (by omega)) pass0 (pa_cons (pv 0) pa_nil))) (pss_one (ps_ret (pc G_times (hr.mono (by omega)) pass0 (pa_cons (pe_tup (pa_cons pe_int (pa_cons pe_int pa_nil))) (pa_cons (pv 0) pa_nil))))) pss_nil) (pss_one (ps_ret (pc G_complement (hr.mono (by omega)) pass0 (pa_cons (pc G_times (hr.mono (by omega)) pass0 (pa_cons (pe_tup (pa_cons pe_int (pa_cons pe_int pa_nil))) (pa_cons (pc G_complement (hr.mono (by omega)) pass0 (pa_cons (pv 0) pa_nil)) pa_nil))) pa_nil))))), ?_⟩
  have half : ∀ (r : Frac), 0 < r.d → pTimes ⟨1, 2⟩ r := fun r h => ⟨mulSmall (by decide), mulSmall (by decide), by decide, h⟩
  refine ⟨_, rfl, v, a, rfl, hv, _, rfl, ?_⟩
  by_cases c : 2 * a.n ≤ a.d
  · rw [if_pos c] at q
    refine (if_pos (decide_eq_true c)).mpr ?_
    exact ⟨(by show 2 ≤ sizeLine; decide), fun p hp => ⟨_, rfl, _, _, ⟨1, 2⟩, a, rfl, FAt.made hp ⟨1, 2⟩, hv.mono (Same.new hp), half _ ua.good.pos, fun z H1 s1 h1 => q z H1 ((Same.new hp).trans s1) h1⟩⟩
  · rw [if_neg c] at q
    refine (if_neg (by simpa using c)).mpr ?_
    refine ⟨(by show 2 ≤ sizeLine; decide), fun p hp => ⟨_, rfl, v, a, rfl, hv.mono (Same.new hp), ua.le, fun x H1 s1 h1 => ?_⟩⟩
    refine ⟨_, _, ⟨1, 2⟩, compl a, rfl, (FAt.made (K := K) hp ⟨1, 2⟩).mono s1, h1, half _ ua.good.pos, fun z H2 s2 h2 => ?_⟩
    exact ⟨z, _, rfl, h2, (mul_U half_U (compl_U ua)).le, fun r H3 s3 h3 => q r H3 (((Same.new hp).trans s1).trans (s2.trans s3)) h3⟩
end
end
end LH

set_option Elab.async false
set_option linter.all false
set_option maxRecDepth 100000
set_option maxHeartbeats 4000000
/-! zip of two iterators of any kind, each told by what its next gives -/
namespace LZ
open PySem
/-- an iterator at it over the items xs of the object at l: st k h says that k items are drawn -/
structure Source (prog : Program) (w : World) (it l : Addr) (st : Nat → Heap → Prop) (xs : Array Value) : Prop where
  keep : ∀ {k : Nat} {h h' : Heap}, st k h → (∀ c o, c = it ∨ c = l → h.get? c = some o → h'.get? c = some o) → st k h'
  item : ∀ {A : Around} {E : Value → Shared → Prop} {s : Shared} {k : Nat} {x : Value} {Q : Value → Shared → Prop}, st k s.heap → xs[k]? = some x → (∀ h', st (k + 1) h' → Heap.SameBut it s.heap h' → Q x { s with heap := h' }) → wpAny (model prog w) A (Builtin.SmallTypes.nextOf (.ref it)) Q E s
  stop : ∀ {A : Around} {E : Value → Shared → Prop} {s : Shared} {k : Nat} {Q : Value → Shared → Prop}, A.handled = none → st k s.heap → xs[k]? = none → (∀ h' e, Heap.ExtBut it s.heap h' → (∃ o, h'.get? e = some o ∧ o.cls = .type "StopIteration") → E (.ref e) { s with heap := h' }) → wpAny (model prog w) A (Builtin.SmallTypes.nextOf (.ref it)) Q E s
  obj : ∀ {k : Nat} {h : Heap}, st k h → ∃ o, h.get? it = some o ∧ ∀ v, o.data ≠ .cell v
def stT (it l : Addr) (xs : Array Value) : Nat → Heap → Prop := fun k h => h.IsTupleIter it l k ∧ h.IsTuple l xs
def stL (it l : Addr) (xs : Array Value) : Nat → Heap → Prop := fun k h => h.IsListIter it l k ∧ h.IsList l xs
theorem srcT {prog : Program} {w : World} {it l : Addr} {xs : Array Value} (ne : l ≠ it) : Source prog w it l (stT it l xs) xs where
  keep := fun {k h h'} x kp => ⟨x.1.at fun o q => kp it o (.inl rfl) q, x.2.at fun o q => kp l o (.inr rfl) q⟩
  item := fun {A E s k x Q} q hx c => RZ.nextOf_tuple_item q.1 q.2 hx fun h' a sb => c h' ⟨a, q.2.extBut sb.extBut ne⟩ sb
  stop := fun {A E s k Q} hh q hx c => RZ.nextOf_tuple_end hh q.1 q.2 hx c
  obj := fun {k h} q => by
    obtain ⟨o, e, _, d⟩ := q.1
    exact ⟨o, e, fun v z => by rw [d] at z; cases z⟩
theorem srcL {prog : Program} {w : World} {it l : Addr} {xs : Array Value} (ne : l ≠ it) : Source prog w it l (stL it l xs) xs where
  keep := fun {k h h'} x kp => ⟨x.1.at fun o q => kp it o (.inl rfl) q, x.2.at fun o q => kp l o (.inr rfl) q⟩
  item := fun {A E s k x Q} q hx c => wpAny_nextOf_list_item q.1 q.2 hx fun h' a sb => c h' ⟨a, q.2.extBut sb.extBut ne⟩ sb
  stop := fun {A E s k Q} hh q hx c => wpAny_nextOf_list_end hh q.1 q.2 hx c
  obj := fun {k h} q => by
    obtain ⟨o, e, _, d⟩ := q.1
    exact ⟨o, e, fun v z => by rw [d] at z; cases z⟩
section
variable {prog : Program} {w : World} {A : Around} {E : Value → Shared → Prop} {s : Shared} {z TI TO i1 i2 l1 l2 : Addr} {st1 st2 : Nat → Heap → Prop} {xs ys : Array Value} {k : Nat} {a b : Value}
/-- where the zip's own record, its two tuples and both iterators stand -/
structure ZipAt (h : Heap) (z TI TO i1 i2 : Addr) (a b : Value) : Prop where
  me : IsZip h z TI TO .none
  its : IsPair h TI (.ref i1) (.ref i2)
  out : IsPair h TO a b
theorem zipS_item {x y : Value} {Q : Value → Shared → Prop} (S1 : Source prog w i1 l1 st1 xs) (S2 : Source prog w i2 l2 st2 ys) (D : ZipApart z TI TO i1 i2 l1 l2) (Z : ZipAt s.heap z TI TO i1 i2 a b)
    (g1 : st1 k s.heap) (g2 : st2 k s.heap) (hx : xs[k]? = some x) (hy : ys[k]? = some y)
    (fin : ∀ h', IsZip h' z TI TO (rawInt s.heap.objs.size) → IsPair h' TI (.ref i1) (.ref i2) → IsPair h' TO x y → st1 (k + 1) h' → st2 (k + 1) h' → IsPair h' s.heap.objs.size x y → h'.objs.size = s.heap.objs.size + 1 →
      (∀ c o, c ≠ z → c ≠ TO → c ≠ i1 → c ≠ i2 → s.heap.get? c = some o → h'.get? c = some o) → Q (.ref s.heap.objs.size) { s with heap := h' }) :
    wpAny (model prog w) A (Builtin.«zip.__next__» ⟨[.ref z], []⟩) (fun r s' => ∃ v, r = .done (.ret v) ∧ Q v s') E s := by
  have hz := Z.me
  show wpAny _ _ (field (.ref z) 2 >>= _) _ _ _; apply wpAny_bind; apply wpAny_field hz rfl (x := .bool false) rfl
  show wpAny _ _ (field (.ref z) 3 >>= _) _ _ _; apply wpAny_bind; apply wpAny_field hz rfl (x := .ref TI) rfl
  apply wpAny_bind; apply wpAny_seqItems Z.its rfl
  show wpAny _ _ (Builtin.SmallTypes.ownedTupleIsFree (.ref z) >>= _) _ _ _; apply wpAny_bind; unfold Builtin.SmallTypes.ownedTupleIsFree
  apply wpAny_bind; apply wpAny_field hz rfl (x := .none) rfl; apply wpAny_pure; simp only [if_true]; apply wpAny_bind; apply wpAny_rule
  apply wpAny_bind; apply wpAny_field hz rfl (x := .ref TO) rfl
  apply wpAny_bind; refine wpAny_setField_rec hz (by simp) fun ha za sa => ?_
  have za : IsZip ha z TI TO .ellipsis := za
  have ka : ∀ c o, c ≠ z → s.heap.get? c = some o → ha.get? c = some o := fun c o n q => sa.extBut _ _ n q
  apply wpAny_bind; simp only [List.zipIdx_cons, List.zipIdx_nil, List.forIn_cons, List.forIn_nil]
  apply wpAny_bind; apply wpAny_bind; apply wpAny_onRaise
  show wpAny _ _ (Builtin.SmallTypes.nextOf (.ref i1) >>= _) _ _ _
  have ga1 : st1 k ha := S1.keep g1 fun c o e q => ka c o (by rcases e with rfl | rfl; exact D.i1z; exact D.l1z) q
  have ga2 : st2 k ha := S2.keep g2 fun c o e q => ka c o (by rcases e with rfl | rfl; exact D.i2z; exact D.l2z) q
  apply wpAny_bind; refine S1.item (s := { s with heap := ha }) ga1 hx fun hb gb1 sb => ?_
  have kb : ∀ c o, c ≠ i1 → ha.get? c = some o → hb.get? c = some o := fun c o n q => sb.extBut _ _ n q
  have gb2 : st2 k hb := S2.keep ga2 fun c o e q => kb c o (by rcases e with rfl | rfl; exact D.i12.symm; exact D.l2i1) q
  have ob : IsPair hb TO a b := kb _ _ D.TOi1 (ka _ _ D.TOz Z.out)
  apply wpAny_pure; apply wpAny_bind; apply wpAny_seqItems ob rfl
  apply wpAny_bind; refine wpAny_updateSeq_pair ob fun hc oc sc => ?_
  have oc : IsPair hc TO x b := oc
  have kc : ∀ c o, c ≠ TO → hb.get? c = some o → hc.get? c = some o := fun c o n q => sc.extBut _ _ n q
  have gc1 : st1 (k + 1) hc := S1.keep gb1 fun c o e q => kc c o (by rcases e with rfl | rfl; exact D.TOi1.symm; exact D.l1TO) q
  have gc2 : st2 k hc := S2.keep gb2 fun c o e q => kc c o (by rcases e with rfl | rfl; exact D.TOi2.symm; exact D.l2TO) q
  apply wpAny_bind; apply wpAny_letGo; apply wpAny_pure
  apply wpAny_bind; apply wpAny_bind; apply wpAny_onRaise
  show wpAny _ _ (Builtin.SmallTypes.nextOf (.ref i2) >>= _) _ _ _
  apply wpAny_bind; refine S2.item (s := { s with heap := hc }) gc2 hy fun hd gd2 sd => ?_
  have kd : ∀ c o, c ≠ i2 → hc.get? c = some o → hd.get? c = some o := fun c o n q => sd.extBut _ _ n q
  have gd1 : st1 (k + 1) hd := S1.keep gc1 fun c o e q => kd c o (by rcases e with rfl | rfl; exact D.i12; exact D.l1i2) q
  have od : IsPair hd TO x b := kd _ _ D.TOi2 oc
  apply wpAny_pure; apply wpAny_bind; apply wpAny_seqItems od rfl
  apply wpAny_bind; refine wpAny_updateSeq_pair od fun he oe se => ?_
  have oe : IsPair he TO x y := oe
  have ke : ∀ c o, c ≠ TO → hd.get? c = some o → he.get? c = some o := fun c o n q => se.extBut _ _ n q
  have ge1 : st1 (k + 1) he := S1.keep gd1 fun c o e q => ke c o (by rcases e with rfl | rfl; exact D.TOi1.symm; exact D.l1TO) q
  have ge2 : st2 (k + 1) he := S2.keep gd2 fun c o e q => ke c o (by rcases e with rfl | rfl; exact D.TOi2.symm; exact D.l2TO) q
  apply wpAny_bind; apply wpAny_letGo; apply wpAny_pure; apply wpAny_pure
  apply wpAny_bind; apply wpAny_seqItems oe rfl
  apply wpAny_bind; refine wpAny_newTuple ?_
  have size : he.objs.size = s.heap.objs.size := by rw [se.1, sd.1, sc.1, sb.1, sa.1]
  have zz : IsZip he z TI TO .ellipsis := ke _ _ D.TOz.symm (kd _ _ D.i2z.symm (kc _ _ D.TOz.symm (kb _ _ D.i1z.symm za)))
  have kk : ∀ c o, c ≠ z → c ≠ TO → c ≠ i1 → c ≠ i2 → s.heap.get? c = some o → he.get? c = some o := fun c o n1 n2 n3 n4 q => ke _ _ n2 (kd _ _ n4 (kc _ _ n2 (kb _ _ n3 (ka _ _ n1 q))))
  have zlt : z < he.objs.size := Heap.lt_size zz
  show wpAny _ _ (Builtin.SmallTypes.ownedTupleHandOut (.ref z) (.ref he.objs.size) >>= _) _ _ _; apply wpAny_bind; unfold Builtin.SmallTypes.ownedTupleHandOut
  have zp : IsZip (he.push { cls := .type "tuple", data := .seq #[x, y] }) z TI TO .ellipsis := Heap.get?_push_of_some _ zz
  apply wpAny_bind; refine wpAny_setField_rec zp (by simp) fun hf zf sf => ?_
  have zf : IsZip hf z TI TO (rawInt he.objs.size) := zf
  refine wpAny_setField_rec zf (by simp) fun hg zg sg => ?_
  have zg : IsZip hg z TI TO (rawInt he.objs.size) := zg
  have up : ∀ c o, c ≠ z → he.get? c = some o → hg.get? c = some o := fun c o n q => sg.extBut _ _ n (sf.extBut _ _ n (Heap.get?_push_of_some _ q))
  have new : IsPair hg he.objs.size x y := sg.extBut _ _ (Nat.ne_of_gt zlt) (sf.extBut _ _ (Nat.ne_of_gt zlt) (Heap.get?_push_size _ rfl))
  have sz : hg.objs.size = he.objs.size + 1 := by rw [sg.1, sf.1, Heap.size_push]
  rw [size] at zg new sz
  apply wpAny_pure; refine ⟨_, rfl, ?_⟩; show Q (.ref he.objs.size) _; rw [size]
  exact fin hg zg (up _ _ D.TIz (kk _ _ D.TIz D.TITO D.TIi1 D.TIi2 Z.its)) (up _ _ D.TOz oe) (S1.keep ge1 fun c o e q => up c o (by rcases e with rfl | rfl; exact D.i1z; exact D.l1z) q) (S2.keep ge2 fun c o e q => up c o (by rcases e with rfl | rfl; exact D.i2z; exact D.l2z) q) new sz fun c o n1 n2 n3 n4 q => up c o n1 (kk c o n1 n2 n3 n4 q)
/-- the first iterator, and then the second, has no more: here always the first -/
theorem zipS_end {Q : Fin → Shared → Prop} (S1 : Source prog w i1 l1 st1 xs) (hh : A.handled = none) (D : ZipApart z TI TO i1 i2 l1 l2) (Z : ZipAt s.heap z TI TO i1 i2 a b) (g1 : st1 k s.heap) (hx : xs[k]? = none)
    (fin : ∀ h' e, (∀ c o, c ≠ z → c ≠ TO → c ≠ i1 → c ≠ i2 → s.heap.get? c = some o → h'.get? c = some o) → (∃ o, h'.get? e = some o ∧ o.cls = .type "StopIteration") → E (.ref e) { s with heap := h' }) :
    wpAny (model prog w) A (Builtin.«zip.__next__» ⟨[.ref z], []⟩) Q E s := by
  have hz := Z.me
  show wpAny _ _ (field (.ref z) 2 >>= _) _ _ _; apply wpAny_bind; apply wpAny_field hz rfl (x := .bool false) rfl
  show wpAny _ _ (field (.ref z) 3 >>= _) _ _ _; apply wpAny_bind; apply wpAny_field hz rfl (x := .ref TI) rfl
  apply wpAny_bind; apply wpAny_seqItems Z.its rfl
  show wpAny _ _ (Builtin.SmallTypes.ownedTupleIsFree (.ref z) >>= _) _ _ _; apply wpAny_bind; unfold Builtin.SmallTypes.ownedTupleIsFree
  apply wpAny_bind; apply wpAny_field hz rfl (x := .none) rfl; apply wpAny_pure; simp only [if_true]; apply wpAny_bind; apply wpAny_rule
  apply wpAny_bind; apply wpAny_field hz rfl (x := .ref TO) rfl
  apply wpAny_bind; refine wpAny_setField_rec hz (by simp) fun ha za sa => ?_
  have za : IsZip ha z TI TO .ellipsis := za
  apply wpAny_bind; simp only [List.zipIdx_cons, List.zipIdx_nil, List.forIn_cons, List.forIn_nil]
  apply wpAny_bind; apply wpAny_bind; apply wpAny_onRaise
  show wpAny _ _ (Builtin.SmallTypes.nextOf (.ref i1) >>= _) _ _ _
  have ga1 : st1 k ha := S1.keep g1 fun c o e q => sa.extBut _ _ (by rcases e with rfl | rfl; exact D.i1z; exact D.l1z) q
  apply wpAny_bind; refine S1.stop (s := { s with heap := ha }) hh ga1 hx fun hb e xb he => ?_
  obtain ⟨oe, hoe, ce⟩ := he
  have zb : IsZip hb z TI TO .ellipsis := xb _ _ D.i1z.symm za
  have ez : e ≠ z := fun q => by subst q; rw [zb] at hoe; cases hoe; simp at ce
  refine wpAny_setField_rec zb (by simp) fun hc _ sc => fin hc e (fun c o n1 _ n3 _ q => sc.extBut _ _ n1 (xb _ _ n3 (sa.extBut _ _ n1 q))) ⟨oe, sc.extBut _ _ ez hoe, ce⟩
theorem nextS_item {x y : Value} {Q : Option Value → Shared → Prop} (S1 : Source prog w i1 l1 st1 xs) (S2 : Source prog w i2 l2 st2 ys) (D : ZipApart z TI TO i1 i2 l1 l2) (Z : ZipAt s.heap z TI TO i1 i2 a b)
    (g1 : st1 k s.heap) (g2 : st2 k s.heap) (hx : xs[k]? = some x) (hy : ys[k]? = some y)
    (fin : ∀ h', IsZip h' z TI TO (rawInt s.heap.objs.size) → IsPair h' TI (.ref i1) (.ref i2) → IsPair h' TO x y → st1 (k + 1) h' → st2 (k + 1) h' → IsPair h' s.heap.objs.size x y → h'.objs.size = s.heap.objs.size + 1 →
      (∀ c o, c ≠ z → c ≠ TO → c ≠ i1 → c ≠ i2 → s.heap.get? c = some o → h'.get? c = some o) → Q (some (.ref s.heap.objs.size)) { s with heap := h' }) : wpAny (model prog w) A (pyNext (.ref z)) Q E s := by
  have ty : s.TypeIs (.ref z) "zip" := ⟨_, Z.me, rfl⟩
  unfold pyNext; apply wpAny_bind; apply wpAny_attempt
  exact wpAny_callSpecial?_slot (name := Str.ofString "__next__") ty F.slot_zip_next (wpAny_call_entry F.slot_zip_next ty F.entry_zip_next (zipS_item S1 S2 D Z g1 g2 hx hy fun h' c1 c2 c3 c4 c5 c6 c7 c8 => wpAny_pure (fin h' c1 c2 c3 c4 c5 c6 c7 c8)) (F.args_zip_next_1 _))
theorem nextS_end {Q : Option Value → Shared → Prop} (S1 : Source prog w i1 l1 st1 xs) (hh : A.handled = none) (D : ZipApart z TI TO i1 i2 l1 l2) (Z : ZipAt s.heap z TI TO i1 i2 a b) (g1 : st1 k s.heap) (hx : xs[k]? = none)
    (fin : ∀ h', (∀ c o, c ≠ z → c ≠ TO → c ≠ i1 → c ≠ i2 → s.heap.get? c = some o → h'.get? c = some o) → Q none { s with heap := h' }) : wpAny (model prog w) A (pyNext (.ref z)) Q E s := by
  have ty : s.TypeIs (.ref z) "zip" := ⟨_, Z.me, rfl⟩
  unfold pyNext; apply wpAny_bind; apply wpAny_attempt
  refine wpAny_callSpecial?_slot (name := Str.ofString "__next__") ty F.slot_zip_next (wpAny_call_entry F.slot_zip_next ty F.entry_zip_next (zipS_end S1 hh D Z g1 hx fun h' e kp he => ?_) (F.args_zip_next_1 _))
  obtain ⟨o, ho, hc⟩ := he
  apply wpAny_bind; exact wpAny_isInstance (T := "StopIteration") (b := true) ⟨o, ho, hc⟩ isSubtype_stop (wpAny_pure (fin _ kp))
end
/-! zip(t, l) of a tuple and a list, made -/
abbrev mh1 (h : Heap) (t : Addr) : Heap := h.push { cls := .type "tuple_iterator", data := .fields #[.ref t, .int 0 0] }
abbrev mh2 (h : Heap) (t l : Addr) : Heap := (mh1 h t).push { cls := .type "list_iterator", data := .fields #[.ref l, .int 0 0] }
abbrev mh3 (h : Heap) (t l : Addr) : Heap := (mh2 h t l).push { cls := .type "tuple", data := .seq #[.ref h.objs.size, .ref (mh1 h t).objs.size] }
abbrev mh4 (h : Heap) (t l : Addr) : Heap := (mh3 h t l).push { cls := .type "tuple", data := .seq #[.none, .none] }
abbrev mh5 (h : Heap) (t l : Addr) : Heap := (mh4 h t l).push { cls := .type "zip", data := .fields #[.none, .bool false, .bool false, .ref (mh2 h t l).objs.size, .ref (mh3 h t l).objs.size] }
theorem meets_new (t l : Addr) (xs ys : Array Value) : Meets (Builtin.«zip.__new__» ⟨[.type "zip", .ref t, .ref l], []⟩) (fun _ R s => s.heap.IsTuple t xs ∧ s.heap.IsList l ys ∧ R (.ok (.ret (.ref (mh4 s.heap t l).objs.size))) { s with heap := mh5 s.heap t l }) :=
  .of_wp fun prog w A R s h => by
    obtain ⟨hp, g, d, tk, os⟩ := s
    obtain ⟨ht, hl, h⟩ := h
    have sub := sub_zip
    have a1 : Heap.IsTuple (Shared.heap ⟨hp, g, d, tk, os⟩) t xs := ht
    have a2 : Heap.IsList (Shared.heap ⟨hp.push { cls := .type "tuple_iterator", data := .fields #[.ref t, .int 0 0] }, g, d, tk, os⟩) l ys := Heap.IsList.push hl _
    wp_walk using wpAny_pyIter_tuple a1, wpAny_pyIter_list a2
    exact ⟨_, rfl, h⟩
section
variable {prog : Program} {w : World} {A : Around} {E : Value → Shared → Prop} {s : Shared}
theorem call_zipTL {t l : Addr} {xs ys : Array Value} {Q : Value → Shared → Prop} (ht : s.heap.IsTuple t xs) (hl : s.heap.IsList l ys)
    (fin : ∀ h', ZipAt h' (s.heap.objs.size + 4) (s.heap.objs.size + 2) (s.heap.objs.size + 3) s.heap.objs.size (s.heap.objs.size + 1) .none .none → stT s.heap.objs.size t xs 0 h' → stL (s.heap.objs.size + 1) l ys 0 h' →
      (∀ c o, s.heap.get? c = some o → h'.get? c = some o) → Q (.ref (s.heap.objs.size + 4)) { s with heap := h' }) : wpAny (model prog w) A (call (.type "zip") [.ref t, .ref l]) Q E s := by
  refine callType_new F.called_zip (by decide) (F.typeCall_zip_2 _ _) (F.newCall_zip_2 _ _) (fun obj => F.args_object_init_3 obj _ _) F.entry_zip_new (meets_new t l xs ys) ⟨ht, hl, ?_⟩
  have n1 : (mh1 s.heap t).objs.size = s.heap.objs.size + 1 := by rw [Heap.size_push]
  have n2 : (mh2 s.heap t l).objs.size = s.heap.objs.size + 2 := by rw [Heap.size_push, n1]
  have n3 : (mh3 s.heap t l).objs.size = s.heap.objs.size + 3 := by rw [Heap.size_push, n2]
  have n4 : (mh4 s.heap t l).objs.size = s.heap.objs.size + 4 := by rw [Heap.size_push, n3]
  have p5 : (mh5 s.heap t l).get? (mh4 s.heap t l).objs.size = some { cls := .type "zip", data := .fields #[.none, .bool false, .bool false, .ref (mh2 s.heap t l).objs.size, .ref (mh3 s.heap t l).objs.size] } := by apply Heap.get?_push_size _ rfl
  have p4 : (mh5 s.heap t l).get? (mh3 s.heap t l).objs.size = some { cls := .type "tuple", data := .seq #[.none, .none] } := by apply Heap.get?_push_of_some; apply Heap.get?_push_size _ rfl
  have p3 : (mh5 s.heap t l).get? (mh2 s.heap t l).objs.size = some { cls := .type "tuple", data := .seq #[.ref s.heap.objs.size, .ref (mh1 s.heap t).objs.size] } := by (iterate 2 apply Heap.get?_push_of_some); apply Heap.get?_push_size _ rfl
  have p2 : (mh5 s.heap t l).get? (mh1 s.heap t).objs.size = some { cls := .type "list_iterator", data := .fields #[.ref l, .int 0 0] } := by (iterate 3 apply Heap.get?_push_of_some); apply Heap.get?_push_size _ rfl
  have p1 : (mh5 s.heap t l).get? s.heap.objs.size = some { cls := .type "tuple_iterator", data := .fields #[.ref t, .int 0 0] } := by (iterate 4 apply Heap.get?_push_of_some); apply Heap.get?_push_size _ rfl
  have kp : ∀ c o, s.heap.get? c = some o → (mh5 s.heap t l).get? c = some o := fun c o q => by (iterate 5 apply Heap.get?_push_of_some); exact q
  rw [n2, n3, n4] at p5; rw [n1, n2] at p3; rw [n3] at p4; rw [n1] at p2
  show _ ∧ _; rw [n4]
  exact ⟨⟨_, p5, rfl⟩, fin _ ⟨p5, p3, p4⟩ ⟨⟨_, p1, rfl, rfl⟩, ht.at fun o q => kp t o q⟩ ⟨⟨_, p2, rfl, rfl⟩, hl.at fun o q => kp l o q⟩ kp⟩
end
open PySem.Spec PyProof.Rows L2 LH
/-- the tuple at a and the list at b, drawn together -/
def ItzM (K : PySem.W.Frag) (a b : Addr) : It where
  go := fun i H => ∃ xs ys x y, SqT K H a xs ∧ SqL K H b ys ∧ xs[i]? = some x ∧ ys[i]? = some y
  yld := fun i H v H' => ∃ t x y, v = .ref t ∧ H t = none ∧ H' = upd H t (.tup [x, y]) ∧ (∀ xs, SqT K H a xs → xs[i]? = some x) ∧ ∀ ys, SqL K H b ys → ys[i]? = some y
  stop := fun i H => ∃ xs, SqT K H a xs ∧ xs.length ≤ i
def stM (a b z TI TO i1 i2 : Addr) : Nat → Heap → Prop := fun k h => (∃ u v, ZipAt h z TI TO i1 i2 u v) ∧ h.IsTupleIter i1 a k ∧ h.IsListIter i2 b k
theorem five {z TI TO i1 i2 c : Addr} (h : c ∈ [z, TI, TO, i1, i2]) : c = z ∨ c = TI ∨ c = TO ∨ c = i1 ∨ c = i2 := by simpa using h
theorem stM_obj {a b z TI TO i1 i2 : Addr} {k : Nat} {h : Heap} (q : stM a b z TI TO i1 i2 k h) {c : Addr} (hc : c ∈ [z, TI, TO, i1, i2]) : ∃ o, h.get? c = some o ∧ ∀ v, o.data ≠ .cell v := by
  obtain ⟨⟨u, v, Z⟩, ⟨o1, e1, _, d1⟩, ⟨o2, e2, _, d2⟩⟩ := q
  rcases five hc with rfl | rfl | rfl | rfl | rfl
  · exact ⟨_, Z.me, fun v e => nomatch e⟩
  · exact ⟨_, Z.its, fun v e => nomatch e⟩
  · exact ⟨_, Z.out, fun v e => nomatch e⟩
  · exact ⟨o1, e1, fun v z => by rw [d1] at z; cases z⟩
  · exact ⟨o2, e2, fun v z => by rw [d2] at z; cases z⟩
theorem notin {z TI TO i1 i2 c : Addr} (h : c ∉ [z, TI, TO, i1, i2]) : c ≠ z ∧ c ≠ TI ∧ c ≠ TO ∧ c ≠ i1 ∧ c ≠ i2 := by
  simp only [List.mem_cons, List.not_mem_nil, or_false, not_or] at h
  exact h
theorem turnM {P : Program} {w : World} {K : PySem.W.Frag} {elts : List Expr} {kk : Nat} {tp : Pos} {a b z TI TO i1 i2 : Addr} (D : ZipApart z TI TO i1 i2 a b) : Turn P w K (.Tuple elts kk tp) (ItzM K a b) [z, TI, TO, i1, i2] z (stM a b z TI TO i1 i2) where
  mem := List.mem_cons_self
  obj := fun k h q c hc => stM_obj q hc
  keep := fun k h h' q kp => by
    obtain ⟨⟨u, v, Z⟩, g1, g2⟩ := q
    have mm : ∀ c o, c = z ∨ c = TI ∨ c = TO ∨ c = i1 ∨ c = i2 → h.get? c = some o → h'.get? c = some o := fun c o e r => kp c (by simpa using e) o r
    exact ⟨⟨u, v, mm _ _ (by simp) Z.me, mm _ _ (by simp) Z.its, mm _ _ (by simp) Z.out⟩, g1.at fun o r => mm _ o (by simp) r, g2.at fun o r => mm _ o (by simp) r⟩
  item := by
    intro X hP hw hK hc k pins s σ H E I hf q hg
    subst hP hw hK
    obtain ⟨⟨u, v, Z⟩, g1, g2⟩ := q
    obtain ⟨xs, ys, x, y, qx, qy, hx, hy⟩ := hg
    obtain ⟨vs, rv, pt, _⟩ := I.tuple qx
    obtain ⟨ws, rr, pl, _⟩ := I.list qy
    obtain ⟨ux, hux, rx⟩ := rv.get hx
    obtain ⟨uy, huy, ry⟩ := rr.get hy
    have zl : z < s.heap.objs.size := Heap.lt_size Z.me
    refine nextS_item (srcT D.l1i1) (srcL D.l2i2) D Z ⟨g1, pt⟩ ⟨g2, pl.isList⟩ (x := ux) (y := uy) (by simpa using hux) (by simpa using huy) fun h' z' t' o' a1 a2 new sz kp => ?_
    refine ⟨.ref s.heap.objs.size, rfl, wpAny_letOwnedTupleGo_zip (s := { s with heap := h' }) z' fun h2 z2 sb => ?_⟩
    have up : ∀ c o, c ≠ z → h'.get? c = some o → h2.get? c = some o := fun c o n r => sb.extBut _ _ n r
    have ob : ObjOk X.prog X.w (upd H s.heap.objs.size (.tup [x, y])) h2 s.heap.objs.size (.tup [x, y]) := ⟨(by show 2 ≤ sizeLine; decide), [ux, uy], .cons rx (.cons ry .nil), ⟨_, up _ _ (Nat.ne_of_gt zl) new, rfl, _, rfl⟩⟩
    have I2 := I.turnedNew (h' := h2) (t' := s.toks) (ch := [z, TI, TO, i1, i2]) (fun c o n r => by obtain ⟨n1, n2, n3, n4, n5⟩ := notin n; exact up _ _ n1 (kp c o n1 n3 n4 n5 r)) hf (Nat.le_refl _) ob
    refine ⟨.ref s.heap.objs.size, _, I2, rfl, ⟨_, x, y, rfl, I.hok.fresh (Nat.le_refl _), rfl, fun l hl => by rw [I.tuple_inj hl qx]; exact hx, fun l hl => by rw [I.list_inj hl qy]; exact hy⟩, ⟨⟨_, _, ⟨z2, up _ _ D.TIz t', up _ _ D.TOz o'⟩⟩, a1.1.at fun o r => up _ o D.i1z r, a2.1.at fun o r => up _ o D.i2z r⟩, fun c hm => ?_⟩
    have lt : c < s.heap.objs.size := by
      obtain ⟨o, e, _⟩ := stM_obj (k := k) ⟨⟨u, v, Z⟩, g1, g2⟩ hm
      exact Heap.lt_size e
    rw [upd_ne (Nat.ne_of_lt lt)]
    exact (hf c hm).1
  done := by
    intro X hP hw hK hc k pins s σ H E I hf q hg
    subst hP hw hK
    obtain ⟨⟨u, v, Z⟩, g1, g2⟩ := q
    obtain ⟨xs, qx, le⟩ := hg
    obtain ⟨vs, rv, pt, _⟩ := I.tuple qx
    have ln := rv.length
    refine nextS_end (srcT D.l1i1) (I.ok.hd hc) D Z ⟨g1, pt⟩ (by simp; omega) fun h' kp => ⟨rfl, I.turnedL (t' := s.toks) (ch := [z, TI, TO, i1, i2]) (fun c o n r => by obtain ⟨n1, n2, n3, n4, n5⟩ := notin n; exact kp c o n1 n3 n4 n5 r) hf⟩
  self := fun A i s Q E q h => by
    obtain ⟨⟨u, v, Z⟩, _⟩ := q
    exact wpAny_pyIter_zip Z.me h
/-- for .. in zip(t, l), t a tuple and l a list -/
def iZipM (K : PySem.W.Frag) (ta : TA) : TI := fun σ H R => ta σ H fun vs H1 => ∃ a b xs ys, vs = [.ref a, .ref b] ∧ SqT K H1 a xs ∧ SqL K H1 b ys ∧ R (ItzM K a b) H1
theorem pi_zipM {X : Cx} {e e2 : Expr} {ta : TA} {p pos tp : Pos} {elts : List Expr} {kk : Nat} (hg : Gl X "zip") (hm : X.mg "zip" = none) (ha : PA X [e, e2] ta) (hs : starEach [e, e2] X.env = (false, eval e X.env) :: starEach [e2] X.env := by rfl) (hpl : (backTo pos (starEach [e2] X.env)).any (·.1) = false := by rfl) :
    PI X (.Tuple elts kk tp) (.Call (.Name "zip" p) [e, e2] [] pos) (iZipM X.K ta) := by
  refine ⟨fun pins s σ H R I h => Call_ (ld_blt I hg hm PyProof.Rows.boot_zip (PyProof.Rows.callWith_type1 (thn (ha.run pos pins s σ H _ I h) fun us s1 q => ?_) hs hpl))⟩
  obtain ⟨vs, H1, I1, r, a, b, xs, ys, rfl, qx, qy, q⟩ := q
  cases r with
  | cons r1 r =>
    cases r with
    | cons r2 r =>
      cases r
      cases r1
      cases r2
      obtain ⟨u1, _, pt, _⟩ := I1.tuple qx
      obtain ⟨u2, _, pl, _⟩ := I1.list qy
      obtain ⟨o1, e1, _⟩ := id pt
      refine call_zipTL (show s1.heap.IsTuple a u1.toArray from pt) pl.isList fun h' Z g1 g2 kp => wpAny_pyIter_zip Z.me ?_
      have I2 := I1.kept (h' := h') (t' := s1.toks) kp
      refine ⟨_, [s1.heap.objs.size + 4, s1.heap.objs.size + 2, s1.heap.objs.size + 3, s1.heap.objs.size, s1.heap.objs.size + 1], _, _, H1, rfl, I2, turnM (PySem.W.ktu_apart s1.heap.objs.size a b (Heap.lt_size e1) pl.lt), ⟨⟨_, _, Z⟩, g1.1, g2.1⟩, fun c hm => ?_, q⟩
      have le : s1.heap.objs.size ≤ c := by rcases five hm with z | z | z | z | z <;> rw [z] <;> first | exact Nat.le_refl _ | exact Nat.le_add_right _ _
      exact I1.fpOk le (I1.hok.fresh le)
theorem for_zipM {K : PySem.W.Frag} {a b : Addr} {xs ys : List V} {g : TG} {tb : TS} {D : Ends} {σ : L2.St} {H : Hp} (hl : xs.length = ys.length) (J : Nat → L2.St → Hp → Prop) (h0 : J 0 σ H) (hq : ∀ i σ H, J i σ H → SqT K H a xs ∧ SqL K H b ys)
    (turn : ∀ (i : Nat) (x y : V) (t : Addr) (σ : L2.St) (H : Hp), xs[i]? = some x → ys[i]? = some y → J i σ H → H t = none → g (.ref t) σ (upd H t (.tup [x, y])) fun σ2 H2 => tb { D with nx := J (i + 1), ct := J (i + 1), bk := D.nx } σ2 H2) (fin : ∀ σ H, J xs.length σ H → D.nx σ H) :
    ∃ W : Nat → Nat → L2.St → Hp → Prop, (∃ m, W 0 m σ H) ∧ ∀ i m σ H, W i m σ H →
      ((ItzM K a b).stop i H ∧ D.nx σ H) ∨ ((ItzM K a b).go i H ∧ ∃ N : L2.St → Hp → Prop, (∀ σ' H', N σ' H' → ∃ m', m' < m ∧ W (i + 1) m' σ' H') ∧ ∀ v H', (ItzM K a b).yld i H v H' → g v σ H' fun σ2 H2 => tb { D with nx := N, ct := N, bk := D.nx } σ2 H2) := by
  refine ⟨fun i m σ H => m + i = xs.length ∧ J i σ H, ⟨xs.length, by omega, h0⟩, fun i m σ H ⟨e, j⟩ => ?_⟩
  obtain ⟨qx, qy⟩ := hq i σ H j
  cases m with
  | zero =>
    obtain rfl : i = xs.length := by omega
    exact .inl ⟨⟨xs, qx, Nat.le_refl _⟩, fin σ H j⟩
  | succ m =>
    have lx : i < xs.length := by omega
    have ly : i < ys.length := by omega
    refine .inr ⟨⟨xs, ys, xs[i], ys[i], qx, qy, by simp [lx], by simp [ly]⟩, J (i + 1), fun σ' H' j' => ⟨m, by omega, by omega, j'⟩, ?_⟩
    rintro v H' ⟨t, x, y, rfl, nt, rfl, hx, hy⟩
    exact turn i x y t σ H (hx xs qx) (hy ys qy) j nt
end LZ

set_option Elab.async false
set_option linter.all false
set_option maxRecDepth 100000
set_option maxHeartbeats 4000000
namespace LH
open PySem PySem.Spec PyProof.Rows L2
open Ie02 (Frac Px Colour)
open LM
section
variable {P : Program} {w : World} {K : PySem.W.Frag} {mg : Str → Option Value} {base : Heap}
def spMeanL (K : PySem.W.Frag) : Sp := fun vs H Q _ => ∃ a b ws xs qs, vs = [.ref a, .ref b] ∧ SqT K H a (wV ws) ∧ SqL K H b xs ∧ FsAt K H xs qs ∧ MeanOk ws qs ∧ ∀ z H', Same H H' → FAt K H' z (mean ws qs) → Q z H'
theorem d_meanL (hs : base.NoSeer) (ht : P.given.tree = none) (T : TB mg) (G_greatest_divisor : DefAt P w K mg base CX0 36 "greatest_divisor" P_greatest_divisor spGcd) (G_ratio : DefAt P w K mg base CX0 37 "ratio" P_ratio (spRatio K)) (F : TopFn K mg "mean" "mean" s_mean P_mean) : DefAt P w K mg base CX0 38 "mean" P_mean (spMeanL K) := by
  refine F.ok sc_mean (fun vs H Q E h => ?_) (fun f cdv A outer s H vs Q E hr h => ?_)
  · obtain ⟨_, _, _, _, _, rfl, _⟩ := h; rfl
  obtain ⟨a, b, ws, xs, qs, rfl, ha, hb, hx, ok, q⟩ := h
  have nd := sc_mean.nd
  obtain ⟨W, Vb, M, w1, v1, l1, tot⟩ := ok.size
  have gg : ∀ v ∈ qs, Good v := fun v hv => (ok.good v hv).1
  have lpos := fun i => lcmAll_pos (vs := qs.take i) Nat.one_pos fun v hv => gg v (List.mem_of_mem_take hv)
  have lle : ∀ i, lcmAll (qs.take i) 1 < 2 ^ M := fun i => Nat.lt_of_le_of_lt (Nat.le_of_dvd (lcmAll_pos Nat.one_pos gg) (lcm_take_dvd gg i)) l1
  refine ⟨_, (pss_cons (ps_set (i := 2) nd rfl (Or.inl rfl) pe_int) (pss_cons (ps_for PassesOwn.never rfl (pi_list (pv 1)) (pg_name (i := 3) nd rfl (Or.inl rfl)) (pss_one (ps_set (i := 2) nd rfl (Or.inl rfl) (pe_op op_mulB (pe_op (op_divB (big_of hs ht hr (by decide) rfl rfl rfl)) (pv 2) (pc G_greatest_divisor (hr.mono (by omega)) pass0 (pa_cons (pv 2) (pa_cons (pe_ix (r := rIxT K) ix_tup (pv 3) pe_int (fun _ _ => rfl)) pa_nil)))) (pe_ix (r := rIxT K) ix_tup (pv 3) pe_int (fun _ _ => rfl)))))) (pss_cons (ps_set (i := 4) nd rfl (Or.inl rfl) pe_int) (pss_cons (ps_for PassesOwn.never rfl (LZ.pi_zipM (by rfl) T.n_zip (pa_cons (pv 0) (pa_cons (pv 1) pa_nil))) (pg_tup rfl (pgs_cons (pg_name (i := 5) nd rfl (Or.inl rfl)) (pgs_cons (pg_name (i := 3) nd rfl (Or.inl rfl)) pgs_nil))) (pss_one (ps_set (i := 4) nd rfl (Or.inl rfl) (pe_op op_add (pv 4) (pe_op op_mulB (pe_op op_mulB (pv 5) (pe_ix (r := rIxT K) ix_tup (pv 3) pe_int (fun _ _ => rfl))) (pe_op (op_divB (big_of hs ht hr (by decide) rfl rfl rfl)) (pv 2) (pe_ix (r := rIxT K) ix_tup (pv 3) pe_int (fun _ _ => rfl)))))))) (pss_one (ps_ret (pc G_ratio (hr.mono (by omega)) pass0 (pa_cons (pv 4) (pa_cons (pe_op op_mulB (pe_callB (cr_sumT rfl) (by rfl) T.n_sum (by decide +kernel) (pa_cons (pv 0) pa_nil)) (pv 2)) pa_nil))))))))), ?_⟩
  refine ⟨_, rfl, b, rfl, ⟨xs, hb⟩, for_list (K := K) (a := b) (xs := xs) (fun i σ H' => H' = H ∧ ∃ z, σ = [some (.ref a), some (.ref b), some (.int (lcmAll (qs.take i) 1 : Nat)), z, none, none]) ⟨rfl, none, rfl⟩ (fun i σ H' _ h => by rw [h.1]; exact hb) ?_ ?_⟩
  · rintro i x σ H' hi ⟨rfl, z, rfl⟩
    obtain ⟨v, hv, p, rfl, hp⟩ := Paired.at hx hi
    have hm := List.mem_of_getElem? hv
    have gp : 0 < Nat.gcd (lcmAll (qs.take i) 1) v.d := Nat.gcd_pos_of_pos_left _ (lpos i)
    refine ⟨_, rfl, _, rfl, _, rfl, _, _, 1, _, rfl, rfl, hp, rfl, lcmAll (qs.take i) 1, v.d, rfl, _, _, rfl, rfl, (by show (0 : Int) < _; omega), _, rfl, _, _, 1, _, rfl, rfl, hp, rfl, _, _, rfl, rfl, ?_, rfl, some (.ref p), ?_⟩
    · exact MOk.of (Nat.lt_of_le_of_lt (Nat.div_le_self _ _) (lle i)) (v1 v hm) (by omega)
    · rw [lcm_more hv]
      rfl
  · rintro σ H' ⟨rfl, z, rfl⟩
    have e0 : qs.take xs.length = qs := by rw [hx.length]; exact List.take_length
    rw [e0]
    have hl : (wV ws).length = xs.length := by unfold wV; rw [List.length_map, List.length_map, ok.len, hx.length]
    refine ⟨_, rfl, _, rfl, a, b, wV ws, xs, rfl, ha, hb, ?_⟩
    refine LZ.for_zipM hl (fun i σ H'' => Same H' H'' ∧ ∃ z y, σ = [some (.ref a), some (.ref b), some (.int (lcmAll qs 1 : Nat)), z, some (.int (topAll (lcmAll qs 1) ((ws.zip qs).take i) 0 : Nat)), y]) ⟨Same.refl _, _, none, rfl⟩ (fun i σ H'' h => ⟨Same.seqT h.1 ha, Same.seq h.1 hb⟩) ?_ ?_
    · rintro i x y t σ H'' hi hj ⟨sm, z, u, rfl⟩ ht
      obtain ⟨v, hv, p, rfl, hp⟩ := Paired.at hx hj
      have hm := List.mem_of_getElem? hv
      obtain ⟨n, hn, rfl⟩ : ∃ n : Nat, ws[i]? = some n ∧ x = V.int n := by
        unfold wV at hi
        rw [List.getElem?_map, List.getElem?_map] at hi
        cases e : ws[i]? with
        | none => rw [e] at hi; cases hi
        | some n => rw [e] at hi; exact ⟨n, rfl, (Option.some.inj hi).symm⟩
      have hwm := List.mem_of_getElem? hn
      have s2 : Same H' (upd H'' t (.tup [.int n, .ref p])) := sm.trans (Same.new ht)
      have hp2 := Same.seqT s2 hp
      have hz : (ws.zip qs)[i]? = some (n, v) := by rw [List.getElem?_zip_eq_some]; exact ⟨hn, hv⟩
      have hn1 : n < 2 ^ W := Nat.lt_of_le_of_lt (le_sum_of hwm) w1
      have hv1 : v.n < 2 ^ Vb := Nat.lt_of_le_of_lt (ok.good v hm).2 (v1 v hm)
      have gv := (ok.good v hm).1.pos
      refine ⟨t, _, rfl, .of upd_same, rfl, _, _, rfl, _, _, rfl, rfl, ?_⟩
      refine ⟨_, rfl, _, rfl, _, rfl, _, _, 0, _, rfl, rfl, hp2, rfl, _, _, rfl, rfl, MOk.of hn1 hv1 (by omega), _, rfl, _, rfl, _, _, 1, _, rfl, rfl, hp2, rfl, _, _, rfl, rfl, (by show (0 : Int) < _; omega), _, _, rfl, rfl, ?_, _, _, rfl, rfl, s2, some (.ref p), some (.int n), ?_⟩
      · exact MOk.of (i := n * v.n) (j := lcmAll qs 1 / v.d) (lt_mul_pow hn1 hv1) (Nat.lt_of_le_of_lt (Nat.div_le_self _ _) l1) (by omega)
      · rw [top_more hz]
        rfl
    · rintro σ H'' ⟨sm, z, u, rfl⟩
      have e1 : (ws.zip qs).take (wV ws).length = ws.zip qs := by
        rw [hl, ← hx.length.symm, ← ok.len]
        refine List.take_of_length_le ?_
        rw [List.length_zip]
        omega
      rw [e1]
      refine ⟨_, rfl, _, rfl, a, _, rfl, Same.seqT sm ha, _, rfl, _, _, rfl, rfl, ?_, ?_⟩
      · rw [sum_cast]
        exact MOk.of w1 l1 (by omega)
      · refine ⟨_, ws.sum * lcmAll qs 1, ?_, Nat.mul_pos ok.pos (lcmAll_pos Nat.one_pos gg), fun z H3 s3 hz => q z H3 (sm.trans s3) hz⟩
        rw [sum_cast]
        rfl
/-! the adjusted pixel -/
def spAdj (K : PySem.W.Frag) : Sp := fun vs H Q _ => ∃ (k : Nat) (v : V) (p : Px), vs = [.int k, v] ∧ PAt K H v p ∧ LimL p ∧ ∀ z H', Same H H' → PAt K H' z ⟨changedP k p.c, Ie02.one⟩ → Q z H'
theorem three_map (f : Frac → Frac) (c : Colour) : [c.r, c.g, c.b].map f = [(c.map f).r, (c.map f).g, (c.map f).b] := rfl
abbrev s_adjusted : Stmt := topS 49
abbrev N_adjusted : List Str := ["kind", "below", "colour", "channel"]
abbrev P_adjusted : List Str := ["kind", "below"]
theorem sc_adjusted : FnScope N_adjusted P_adjusted (defScope s_adjusted) := ⟨rfl, rfl, rfl, by decide +kernel, rfl, by decide +kernel, by decide +kernel⟩
theorem adj_end {D x0 x1 x2 : Addr} {H0 H' : Hp} {c : Colour} {Q : VK} (hD : SqL K H' D [.ref x0, .ref x1, .ref x2]) (f0 : SqT K H' x0 (fracV c.r)) (f1 : SqT K H' x1 (fracV c.g)) (f2 : SqT K H' x2 (fracV c.b)) (s : Same H0 H')
    (q : ∀ z H', Same H0 H' → PAt K H' z ⟨c, Ie02.one⟩ → Q z H') (σ : L2.St) (hσ : σ[2]? = some (some (.ref D))) :
    tRet (tTup (tCons (tOp (rIxL K) (tVar 2) (tC (V.int 0))) (tCons (tOp (rIxL K) (tVar 2) (tC (V.int 1))) (tCons (tOp (rIxL K) (tVar 2) (tC (V.int 2))) (tCons (tTup (tCons (tC (V.int 1)) (tCons (tC (V.int 1)) tNil))) tNil))))) { nx := fun _ H' => Q .non H', rt := Q } σ H' := by
  refine ⟨_, hσ, _, _, 0, _, rfl, rfl, hD, rfl, _, hσ, _, _, 1, _, rfl, rfl, hD, rfl, _, hσ, _, _, 2, _, rfl, rfl, hD, rfl, (by show 2 ≤ sizeLine; decide), fun p hp => ⟨(by show 4 ≤ sizeLine; decide), fun t ht => ?_⟩⟩
  have s1 := Same.new (o := .tup (fracV Ie02.one)) hp
  exact q _ _ ((s.trans s1).trans (Same.new ht)) (PAt.mk4 (c := c) (a := Ie02.one) ht (Same.seqT s1 f0) (Same.seqT s1 f1) (Same.seqT s1 f2) (.of upd_same))
theorem d_adjusted (T : TB mg) (G_complement : DefAt P w K mg base CX0 38 "complement" P_complement (spF1 K compl fun a => a.n ≤ a.d)) (G_mean : DefAt P w K mg base CX0 38 "mean" P_mean (spMeanL K)) (G_nearer_to_its_end : DefAt P w K mg base CX0 40 "nearer_to_its_end" P_nearer_to_its_end (spF1 K nearP U))
    (F : TopFn K mg "adjusted" "adjusted" s_adjusted P_adjusted) : DefAt P w K mg base CX0 43 "adjusted" P_adjusted (spAdj K) := by
  refine F.ok sc_adjusted (fun vs H Q E h => ?_) (fun f cdv A outer s H vs Q E hr h => ?_)
  · obtain ⟨_, _, _, rfl, _⟩ := h; rfl
  obtain ⟨k, v, p, rfl, hu, ll, q⟩ := h
  have nd := sc_adjusted.nd
  refine ⟨_, (pss_cons (ps_set (i := 2) nd rfl (Or.inl rfl) (pe_callTy call_list_of (by rfl) T.n_list (by decide +kernel) (pa_cons (pe_slice sl_tup (pv 1) po_none (po_some pe_int)) pa_nil))) (pss_cons (ps_if (pt_cmpR op_eq (pv 0) pe_int (nomark _)) (pss_one (ps_setLc (i := 2) (own := [("channel", 3)]) (g := gName 3) (tt := tYes) rfl nd rfl rfl (sw_true rfl rfl rfl (by decide +kernel)) (pi_list (pv 2)) (blkOk_by (own := [("channel", 3)]) (N := N_adjusted) (sc := defScope s_adjusted) (by decide +kernel)) (fun _ _ _ _ _ => pg_name (i := 3) nd rfl (Or.inl rfl)) (fun _ _ _ _ _ => pts_nil) (fun _ _ _ _ _ => (pc G_complement (hr.mono (by omega)) pass0 (pa_cons (pv 3) pa_nil))))) (pss_one (ps_if (pt_cmpR op_eq (pv 0) pe_int (nomark _)) (pss_one (ps_set (i := 2) nd rfl (Or.inl rfl) (pe_op op_rep (pe_lst (pa_cons (pc G_mean (hr.mono (by omega)) pass0 (pa_cons (pe_tup (pa_cons pe_int (pa_cons pe_int (pa_cons pe_int pa_nil)))) (pa_cons (pv 2) pa_nil))) pa_nil)) pe_int))) (pss_one (ps_setLc (i := 2) (own := [("channel", 3)]) (g := gName 3) (tt := tYes) rfl nd rfl rfl (sw_true rfl rfl rfl (by decide +kernel)) (pi_list (pv 2)) (blkOk_by (own := [("channel", 3)]) (N := N_adjusted) (sc := defScope s_adjusted) (by decide +kernel)) (fun _ _ _ _ _ => pg_name (i := 3) nd rfl (Or.inl rfl)) (fun _ _ _ _ _ => pts_nil) (fun _ _ _ _ _ => (pc G_nearer_to_its_end (hr.mono (by omega)) pass0 (pa_cons (pv 3) pa_nil)))))))) (pss_one (ps_ret (pe_tup (pa_cons (pe_ix (r := rIxL K) ix_list (pv 2) pe_int (fun _ _ => rfl)) (pa_cons (pe_ix (r := rIxL K) ix_list (pv 2) pe_int (fun _ _ => rfl)) (pa_cons (pe_ix (r := rIxL K) ix_list (pv 2) pe_int (fun _ _ => rfl)) (pa_cons (pe_tup (pa_cons pe_int (pa_cons pe_int pa_nil))) pa_nil))))))))), ?_⟩
  obtain ⟨pu, ur, ug, ub, ul, rfl, sU, sur, sug, sub, sul⟩ := hu.get
  refine ⟨_, rfl, 3, rfl, pu, _, rfl, sU, (by show ¬ (0 = 0 ∧ min 3 4 = 4); decide), fun pc hpc => ⟨pc, [.ref ur, .ref ug, .ref ub], rfl, .inr (.of upd_same), fun D0 hD0 => ?_⟩⟩
  have s0 : Same H (upd (upd H pc (.tup (cutV [.ref ur, .ref ug, .ref ub, .ref ul] none (some 3)))) D0 (.lst [.ref ur, .ref ug, .ref ub])) := (Same.new hpc).trans (Same.new hD0)
  have hL0 : (upd (upd H pc (.tup (cutV [.ref ur, .ref ug, .ref ub, .ref ul] none (some 3)))) D0 (.lst [.ref ur, .ref ug, .ref ub])) D0 = some (.lst [.ref ur, .ref ug, .ref ub]) := upd_same
  generalize upd (upd H pc (.tup (cutV [.ref ur, .ref ug, .ref ub, .ref ul] none (some 3)))) D0 (.lst [.ref ur, .ref ug, .ref ub]) = H0 at s0 hL0
  have hc : FsAt K H0 [.ref ur, .ref ug, .ref ub] [p.c.r, p.c.g, p.c.b] := .cons ⟨ur, rfl, Same.seqT s0 sur⟩ (.cons ⟨ug, rfl, Same.seqT s0 sug⟩ (.cons ⟨ub, rfl, Same.seqT s0 sub⟩ .nil))
  have us := good3 ll.up.c.r ll.up.c.g ll.up.c.b
  refine ⟨_, rfl, rfl, _, rfl, ?_⟩
  match k with
  | 0 =>
    refine (if_pos (by simp)).mpr ?_
    refine ⟨_, rfl, D0, rfl, ⟨_, .of hL0⟩, fun D hD => ?_⟩
    refine lc_list (K := K) (a := D0) (xs := [.ref ur, .ref ug, .ref ub]) (fun i H' => Acc K H0 D (([p.c.r, p.c.g, p.c.b].take i).map compl) H') (Acc.start hD) (fun i H' _ acc => Same.seq acc.same (.of hL0)) ?_ ?_
    · intro i x H' hi acc
      obtain ⟨y, hy, fy⟩ := Paired.at hc hi
      refine ⟨rfl, tYes_go ⟨_, rfl, x, y, rfl, fy.mono acc.same, (us y (List.mem_of_getElem? hy)).le, fun z H1 s1 h1 => ?_⟩⟩
      have e := acc.step s1 h1 (by rw [List.length_map, List.length_take]; show min i 3 < 1000; omega)
      rw [← map_take_more hy] at e
      exact e
    · intro H' acc
      obtain ⟨l, hl, pl⟩ := acc.at_
      obtain ⟨x0, x1, x2, rfl, f0, f1, f2⟩ := FsAt.three pl
      exact adj_end (c := p.c.map compl) (.of hl) f0 f1 f2 (s0.trans acc.same) q _ rfl
  | 1 =>
    refine (if_neg (by simp)).mpr ⟨_, rfl, rfl, _, rfl, (if_pos (by simp)).mpr ?_⟩
    refine ⟨(by show 3 ≤ sizeLine; decide), fun pw hpw => ⟨_, rfl, ?_⟩⟩
    have s1 := Same.new (o := .tup (wV [3, 6, 1])) hpw
    refine ⟨pw, D0, [3, 6, 1], [.ref ur, .ref ug, .ref ub], [p.c.r, p.c.g, p.c.b], rfl, .of upd_same, Same.seq s1 (.of hL0), FsAt.mono hc s1, ?_, fun z H2 s2 h2 => ?_⟩
    · refine ⟨rfl, by decide, fun x hx => UU x (us x hx), 4, NL + 1, NU + 1, by decide, fun x hx => ?_, lt_of_le_pow ll.com, by rw [NL_eq, NU_eq]; omega⟩
      simp only [List.mem_cons, List.not_mem_nil, or_false] at hx
      rcases hx with rfl | rfl | rfl
      · exact lt_of_le_pow ll.r
      · exact lt_of_le_pow ll.g
      · exact lt_of_le_pow ll.b
    · obtain ⟨x, rfl, hx⟩ := h2
      refine ⟨(by show 1 ≤ sizeLine; decide), fun p2 hp2 => ⟨p2, 3, [.ref x], rfl, rfl, upd_same, by decide, by decide, by show 1 * 3 ≤ sizeLine; decide, fun p3 hp3 => ?_⟩⟩
      have s3 : Same H2 (upd (upd H2 p2 (.lst [.ref x])) p3 (.lst [.ref x, .ref x, .ref x])) := (Same.new hp2).trans (Same.new hp3)
      have hx3 := Same.seqT s3 hx
      exact adj_end (c := ⟨mean [3, 6, 1] [p.c.r, p.c.g, p.c.b], mean [3, 6, 1] [p.c.r, p.c.g, p.c.b], mean [3, 6, 1] [p.c.r, p.c.g, p.c.b]⟩) (.of upd_same) hx3 hx3 hx3 (((s0.trans s1).trans s2).trans s3) q _ rfl
  | j + 2 =>
    refine (if_neg (by simp; omega)).mpr ⟨_, rfl, rfl, _, rfl, (if_neg (by simp; omega)).mpr ?_⟩
    refine ⟨_, rfl, D0, rfl, ⟨_, .of hL0⟩, fun D hD => ?_⟩
    refine lc_list (K := K) (a := D0) (xs := [.ref ur, .ref ug, .ref ub]) (fun i H' => Acc K H0 D (([p.c.r, p.c.g, p.c.b].take i).map nearP) H') (Acc.start hD) (fun i H' _ acc => Same.seq acc.same (.of hL0)) ?_ ?_
    · intro i x H' hi acc
      obtain ⟨y, hy, fy⟩ := Paired.at hc hi
      refine ⟨rfl, tYes_go ⟨_, rfl, x, y, rfl, fy.mono acc.same, us y (List.mem_of_getElem? hy), fun z H1 s1 h1 => ?_⟩⟩
      have e := acc.step s1 h1 (by rw [List.length_map, List.length_take]; show min i 3 < 1000; omega)
      rw [← map_take_more hy] at e
      exact e
    · intro H' acc
      obtain ⟨l, hl, pl⟩ := acc.at_
      obtain ⟨x0, x1, x2, rfl, f0, f1, f2⟩ := FsAt.three pl
      exact adj_end (c := p.c.map nearP) (.of hl) f0 f1 f2 (s0.trans acc.same) q _ rfl
end
end LH

set_option Elab.async false
set_option linter.all false
set_option maxRecDepth 100000
set_option maxHeartbeats 4000000
namespace LH
open PySem PySem.Spec PyProof.Rows L2
open Ie02 (Frac Px Colour Doc Layer)
open LM
/-! fields with the written part named; methods -/
section
variable {X : Cx} {K : PySem.W.Frag} {CX : CXT} {k : Nat} {C : Addr} {ps : List Str} {sp : Sp} {E : XK} {m f : Str} {pos apos : Pos} {e o : Expr} {es : List Expr} {ta : TE} {t : TA}
theorem pfld (he : PE X e ta) (hb : attributeBase e f X.env (eval e X.env) = eval e X.env) (hK : X.K = K := by rfl) : PE X (.Attribute e f pos) (tFld K ta f) := hK ▸ pe_fld he hb
def tMt (C : Addr) (m : Str) (sp : Sp) (E : XK) (ta : TE) (t : TA) : TE := fun σ H Q => ta σ H fun x H1 => ∃ a dx fs, x = .ref a ∧ H1 a = some (.ins C dx fs) ∧ fs.lookup m = none ∧ t σ H1 fun vs H2 => sp (x :: vs) H2 Q E
theorem pm {pl : Sem Bool} (he : PE X o ta) (c : Cls X.K C) (G : MetAt X.prog X.w X.K X.mg X.base CX k C m ps sp) (hr : Room k X.A) (hx : Passes CX X E) (ha : PA X (e :: es) t)
    (hst : starEach (e :: es) X.env = (false, eval e X.env) :: starEach es X.env := by rfl) (hpl : (backTo pos (starEach es X.env)).any (·.1) = false := by rfl)
    (ht : eval (.Call (.Attribute o m apos) (e :: es) [] pos) X.env = (do
      let ov ← eval o X.env
      standAt apos.atName
      let (f, first) ← holding [ov] (getMethod ov m pl)
      callWith pos f first (backTo pos (starEach (e :: es) X.env)) (backToKw pos (keywordEach [] X.env))) := by rfl) :
    PE X (.Call (.Attribute o m apos) (e :: es) [] pos) (tMt C m sp E ta t) := by
  obtain ⟨f, fd, F, hm, hb⟩ := G.ex
  have z := pe_meth he c hm F hr hb .nil hx ha hst hpl ht
  unfold tMeth at z
  simp only [List.append_nil] at z
  exact z
theorem pm0 {pl : Sem Bool} (he : PE X o ta) (c : Cls X.K C) (G : MetAt X.prog X.w X.K X.mg X.base CX k C m ps sp) (hr : Room k X.A) (hx : Passes CX X E)
    (ht : eval (.Call (.Attribute o m apos) [] [] pos) X.env = (do
      let ov ← eval o X.env
      standAt apos.atName
      let (f, first) ← holding [ov] (getMethod ov m pl)
      callWith pos f first (backTo pos (starEach [] X.env)) (backToKw pos (keywordEach [] X.env))) := by rfl) :
    PE X (.Call (.Attribute o m apos) [] [] pos) (tMt C m sp E ta tNil) := by
  obtain ⟨f, fd, F, hm, hb⟩ := G.ex
  have z := pe_meth0 he c hm F hr hb .nil hx ht
  unfold tMeth at z
  simp only [List.append_nil] at z
  exact z
end
/-! the classes of the program -/
structure CAd where
  D : Addr
  L : Addr
  R : Addr
  G : Addr
  A : Addr
def CAd.of (c : CAd) : LKind → Addr
  | .picture => c.R
  | .group _ => c.G
  | .change _ => c.A
def baseN : List Str := ["parent", "mode", "opacity", "clip", "visible", "mask"]
def namesR : List Str := baseN ++ ([("pixels" : Str)] : List Str)
def namesG : List Str := baseN ++ ([("pass_through" : Str), "members"] : List Str)
def namesA : List Str := baseN ++ ([("kind" : Str)] : List Str)
def namesOf : LKind → List Str
  | .picture => namesR
  | .group _ => namesG
  | .change _ => namesA
def docN : List Str := ["width", "height", "layers", "root", "next_number"]
/-- what isinstance needs to know of an instance of C -/
structure Isi (K : PySem.W.Frag) (C : Addr) : Prop where
  ha : PySem.W.findIn K (.ref C) "__class__" = some (some (.builtin "object.__class__"))
  hm : PySem.W.mroIn K C (.type "object") = some true
/-- what the top has of the classes -/
structure TC (K : PySem.W.Frag) (mg : Str → Option Value) (c : CAd) (eN : Addr) : Prop extends TB mg where
  cD : Cls K c.D
  cO : ∀ k, Cls K (c.of k)
  nD : ∀ f ∈ docN, NoAttr K c.D f
  nO : ∀ k, ∀ f ∈ namesOf k, NoAttr K (c.of k) f
  c_RasterLayer : mg "RasterLayer" = some (.ref c.R)
  c_Group : mg "Group" = some (.ref c.G)
  c_AdjustmentLayer : mg "AdjustmentLayer" = some (.ref c.A)
  x_NoSuchLayer : ErrAt K mg "NoSuchLayer" eN
  is : ∀ k, Isi K (c.of k)
  hn : PySem.W.specialIn K (.builtin "object.__class__") "__get__" = some (some (.builtin "getset_descriptor.__get__"))
  tk : PySem.W.takesIn K (.builtin "object.__class__") = some true
  isR : ∀ k, PySem.W.kitOne K (.ref (c.of k)) (.ref c.R) = some (decide (k = .picture))
  isG : ∀ k, PySem.W.kitOne K (.ref (c.of k)) (.ref c.G) = some (match k with | .group _ => true | _ => false)
  isA : ∀ k, PySem.W.kitOne K (.ref (c.of k)) (.ref c.A) = some (match k with | .change _ => true | _ => false)
/-! a document in the heap -/
abbrev Lay := Nat → Nat → Addr
def baseF (l : Layer) (m : Addr) : List (Str × V) := [("parent", .int (l.parent : Int)), ("mode", .int (l.mode : Int)), ("opacity", .int (l.opacity : Int)), ("clip", .int (l.clip.toNat : Int)), ("visible", .int (l.shown.toNat : Int)), ("mask", .ref m)]
def restF (k : LKind) (m : Addr) : List (Str × V) := match k with
  | .picture => [("pixels", .ref m)]
  | .group t => [("pass_through", .int (t.toNat : Int)), ("members", .ref m)]
  | .change h => [("kind", .int (h : Int))]
def flds (l : Layer) (ly : Nat → Addr) : List (Str × V) := baseF l (ly 1) ++ restF l.kind (ly 2)
def docF (d : Doc) (lay : Lay) : List (Str × V) := [("width", .int (d.w : Int)), ("height", .int (d.h : Int)), ("layers", .ref (lay 0 1)), ("root", .ref (lay 0 2)), ("next_number", .int (d.next : Int))]
def ent (lay : Lay) (l : Layer) : Key × V := (Sum.inl (l.id : Int), V.ref (lay l.id 0))
/-- the instances and the dict -/
structure DocI (c : CAd) (H : Hp) (d : Doc) (lay : Lay) : Prop where
  doc : ∃ dx, H (lay 0 0) = some (.ins c.D dx (docF d lay))
  dict : ∃ kvs, H (lay 0 1) = some (.dK kvs) ∧ kvs.Perm (d.layers.map (ent lay))
  ins : ∀ l ∈ d.layers, ∃ dx, H (lay l.id 0) = some (.ins (c.of l.kind) dx (flds l (lay l.id)))
/-- the lists of numbers -/
def DocM (H : Hp) (d : Doc) (lay : Lay) : Prop := ∀ p, Par d p → H (lay p 2) = some (.lst (natV (kidIds d p)))
theorem insK {c : CAd} {H : Hp} {a dx : Addr} {l : Layer} {ly : Nat → Addr} {k : LKind} (h : H a = some (.ins (c.of l.kind) dx (flds l ly))) (e : l.kind = k) : H a = some (.ins (c.of k) dx (baseF l (ly 1) ++ restF k (ly 2))) := by
  unfold flds at h
  rw [e] at h
  exact h
section
variable {c : CAd} {H H' : Hp} {d : Doc} {lay : Lay}
theorem DocI.mono (h : DocI c H d lay) (s : Same H H') : DocI c H' d lay := by
  obtain ⟨⟨dx, h1⟩, ⟨kvs, h2, p⟩, h3⟩ := h
  exact ⟨⟨dx, s _ _ h1⟩, ⟨kvs, s _ _ h2, p⟩, fun l hl => let ⟨dx, e⟩ := h3 l hl; ⟨dx, s _ _ e⟩⟩
theorem DocM.mono (h : DocM H d lay) (s : Same H H') : DocM H' d lay := fun p hp => s _ _ (h p hp)
theorem valV_mem {kvs : List (Key × V)} {k : Key} {v : V} (h : valV kvs k = some v) : (k, v) ∈ kvs := by
  unfold valV at h
  cases e : kvs.find? fun kv => decide (kv.1 = k) with
  | none => rw [e] at h; cases h
  | some p =>
    rw [e] at h
    have h1 := List.mem_of_find?_eq_some e
    have h2 := List.find?_some e
    simp only [decide_eq_true_eq] at h2
    cases h
    rw [← h2]
    exact h1
theorem valV_none {kvs : List (Key × V)} {k : Key} (h : valV kvs k = none) : ∀ v, (k, v) ∉ kvs := fun v hv => by
  unfold valV at h
  rw [Option.map_eq_none_iff, List.find?_eq_none] at h
  exact h _ hv (by simp)
theorem DocI.val (h : DocI c H d lay) (I : Ids d) (n : Nat) : ∃ kvs, H (lay 0 1) = some (.dK kvs) ∧ valV kvs (Sum.inl (n : Int)) = (d.find n).map fun l => V.ref (lay l.id 0) := by
  obtain ⟨kvs, h2, p⟩ := h.dict
  refine ⟨kvs, h2, ?_⟩
  cases e : d.find n with
  | none =>
    cases e2 : valV kvs (Sum.inl (n : Int)) with
    | none => rfl
    | some v =>
      have m := p.mem_iff.mp (valV_mem e2)
      obtain ⟨l, hl, el⟩ := List.mem_map.mp m
      have h1 : (l.id : Int) = n := Sum.inl.inj (congrArg Prod.fst el)
      have h3 : l.id = n := by omega
      rw [← h3, find_of I hl] at e
      cases e
  | some l =>
    obtain ⟨hl, rfl⟩ := find_mem e
    cases e2 : valV kvs (Sum.inl (l.id : Int)) with
    | none =>
      exact absurd (p.mem_iff.mpr (List.mem_map_of_mem hl)) (valV_none e2 _)
    | some v =>
      have m := p.mem_iff.mp (valV_mem e2)
      obtain ⟨l2, hl2, el⟩ := List.mem_map.mp m
      have h1 : (l2.id : Int) = l.id := Sum.inl.inj (congrArg Prod.fst el)
      have h3 : l2 = l := mem_unique I hl2 hl (by omega)
      subst h3
      exact congrArg some (congrArg Prod.snd el).symm
end
section
variable {K : PySem.W.Frag} {mg : Str → Option Value} {c : CAd} {eN : Addr} {H : Hp} {a dx : Addr} {k : LKind} {fs : List (Str × V)} {Q : VK}
theorem TC.ty (T : TC K mg c eN) (h : H a = some (.ins (c.of k) dx fs)) : TyX K H (.ref a) (.ref (c.of k)) := .base (.ins h (T.cO k) (T.is k).ha T.hn T.tk (T.is k).hm)
theorem inBase {f : Str} (h : f ∈ baseN) (k : LKind) : f ∈ namesOf k := by
  cases k <;> exact List.mem_append_left _ h
end
section
variable {P : Program} {w : World} {K : PySem.W.Frag} {mg : Str → Option Value} {base : Heap} {c : CAd} {eN : Addr}
/-! reading methods -/
def spFind (c : CAd) (eN : Addr) : Sp := fun vs H Q E => ∃ (d : Doc) (lay : Lay) (n : Nat), vs = [.ref (lay 0 0), .int (n : Int)] ∧ DocI c H d lay ∧ Ids d ∧ (d.find n = none → E (.ref eN) none H) ∧ ∀ l, d.find n = some l → Q (.ref (lay l.id 0)) H
abbrev s_Document_find_layer : Stmt := inClass (topS 13) 3
abbrev N_Document_find_layer : List Str := ["self", "number", "layer"]
abbrev P_Document_find_layer : List Str := ["self", "number"]
theorem sc_Document_find_layer : FnScope N_Document_find_layer P_Document_find_layer (defScope s_Document_find_layer) := ⟨rfl, rfl, rfl, by decide +kernel, rfl, by decide +kernel, by decide +kernel⟩
theorem d_find_layer (T : TC K mg c eN) (F : TopMet K c.D "find_layer" "Document.find_layer" s_Document_find_layer P_Document_find_layer) : MetAt P w K mg base (L2.CX P w) 38 c.D "find_layer" P_Document_find_layer (spFind c eN) := by
  refine F.okX sc_Document_find_layer (fun vs H Q E h => ?_) (fun f cdv A outer s H vs Q E hr h => ?_)
  · obtain ⟨_, _, _, rfl, _⟩ := h; rfl
  obtain ⟨d, lay, n, rfl, D, I, qn, qs⟩ := h
  have nd := sc_Document_find_layer.nd
  refine ⟨_, (pss_cons (ps_set (i := 2) nd rfl (Or.inl rfl) (pe_dget1 (hu_of hr) (pfld (K := K) (pv 0) rfl) (pv 1) ⟨rfl, rfl, rfl, rfl⟩)) (pss_cons (ps_if (pt_cmpR op_isN (pv 2) pe_non (nomark _)) (pss_one (praise T.x_NoSuchLayer (takes_of rfl rfl rfl rfl))) pss_nil) (pss_one (ps_ret (pv 2))))), ?_⟩
  obtain ⟨dx, hd⟩ := D.doc
  obtain ⟨kvs, hk, hv⟩ := D.val I n
  refine ⟨_, rfl, _, _, _, _, _, rfl, hd, T.cD, T.nD _ (by decide), rfl, _, rfl, .inl ⟨kvs, .inl hk⟩, _, rfl, _, DGet.k (k := Sum.inl (n : Int)) hk, ?_⟩
  rw [hv]
  refine ⟨_, rfl, rfl, _, rfl, ?_⟩
  cases e : d.find n with
  | none =>
    refine (if_pos (by simp)).mpr ?_
    exact qn e
  | some l =>
    refine (if_neg (by simp)).mpr ?_
    exact ⟨_, rfl, qs l e⟩
def spMem (c : CAd) (eN : Addr) : Sp := fun vs H Q E => ∃ (d : Doc) (lay : Lay) (p : Nat), vs = [.ref (lay 0 0), .int (p : Int)] ∧ DocI c H d lay ∧ Ids d ∧ (d.takes p = false → E (.ref eN) none H) ∧ (d.takes p = true → Q (.ref (lay p 2)) H)
abbrev s_Document_members_of : Stmt := inClass (topS 13) 4
abbrev N_Document_members_of : List Str := ["self", "parent", "layer"]
abbrev P_Document_members_of : List Str := ["self", "parent"]
theorem sc_Document_members_of : FnScope N_Document_members_of P_Document_members_of (defScope s_Document_members_of) := ⟨rfl, rfl, rfl, by decide +kernel, rfl, by decide +kernel, by decide +kernel⟩
theorem d_members_of (T : TC K mg c eN) (M_find_layer : MetAt P w K mg base (L2.CX P w) 38 c.D "find_layer" P_Document_find_layer (spFind c eN)) (F : TopMet K c.D "members_of" "Document.members_of" s_Document_members_of P_Document_members_of) :
    MetAt P w K mg base (L2.CX P w) 40 c.D "members_of" P_Document_members_of (spMem c eN) := by
  refine F.okX sc_Document_members_of (fun vs H Q E h => ?_) (fun f cdv A outer s H vs Q E hr h => ?_)
  · obtain ⟨_, _, _, rfl, _⟩ := h; rfl
  obtain ⟨d, lay, p, rfl, D, I, qn, qs⟩ := h
  have nd := sc_Document_members_of.nd
  refine ⟨_, (pss_cons (ps_if (pt_cmpR op_eq (pv 1) pe_int (nomark _)) (pss_one (ps_ret (pfld (K := K) (pv 0) rfl))) pss_nil) (pss_cons (ps_set (i := 2) nd rfl (Or.inl rfl) (pm (pv 0) T.cD M_find_layer (hr.mono (by omega)) (passes_call (takes_of rfl rfl rfl rfl) (fun _ _ _ _ h => h)) (pa_cons (pv 1) pa_nil))) (pss_cons (ps_if (pt_not (pt_val (pe_callB call_isi (by rfl) T.n_isinstance (by decide +kernel) (pa_cons (pv 2) (pa_cons (pe_glob (v := .ref _) rfl T.c_Group rfl) pa_nil))))) (pss_one (praise T.x_NoSuchLayer (takes_of rfl rfl rfl rfl))) pss_nil) (pss_one (ps_ret (pfld (K := K) (pv 2) rfl)))))), ?_⟩
  obtain ⟨dx, hd⟩ := D.doc
  refine ⟨_, rfl, rfl, _, rfl, ?_⟩
  by_cases c0 : p = 0
  · subst c0
    refine (if_pos (by simp)).mpr ⟨_, rfl, _, _, _, _, _, rfl, hd, T.cD, T.nD _ (by decide), rfl, qs rfl⟩
  refine (if_neg (by simp; omega)).mpr ?_
  have tk : d.takes p = match d.find p with
      | some l => isGroup l.kind
      | none => false := by
    unfold Doc.takes
    rw [show (p == 0) = false by simpa using c0, Bool.false_or]
    rfl
  refine ⟨_, rfl, lay 0 0, dx, _, rfl, hd, rfl, _, rfl, d, lay, p, rfl, D, I, fun e => qn (by rw [tk, e]), fun l e => ?_⟩
  rw [e] at tk
  obtain ⟨hl, rfl⟩ := find_mem e
  have tk : d.takes l.id = isGroup l.kind := tk
  obtain ⟨dl, hi⟩ := D.ins l hl
  refine ⟨_, rfl, _, _, _, _, _, rfl, .own _, T.ty hi, T.isG _, _, rfl, ?_⟩
  cases hk : l.kind with
  | picture =>
    rw [hk] at tk
    exact (if_pos (by rfl)).mpr (qn tk)
  | change h =>
    rw [hk] at tk
    exact (if_pos (by rfl)).mpr (qn tk)
  | group t =>
    rw [hk] at tk
    refine (if_neg (by simp)).mpr ?_
    have hi2 := insK hi hk
    refine ⟨_, rfl, _, _, _, _, _, rfl, hi2, T.cO (.group t), T.nO (.group t) _ (show _ ∈ namesG by decide), rfl, ?_⟩
    exact qs tk
def spLevel (c : CAd) : Sp := fun vs H Q _ => ∃ (d : Doc) (lay : Lay) (f : Nat → Nat) (p : Nat), vs = [.ref (lay 0 0), .int (p : Int)] ∧ DocI c H d lay ∧ Ids d ∧ Lev d f ∧ Par d p ∧ Q (.int ((f p + 1 : Nat) : Int)) H
abbrev s_Document_level_in : Stmt := inClass (topS 13) 5
abbrev N_Document_level_in : List Str := ["self", "parent", "level", "group"]
abbrev P_Document_level_in : List Str := ["self", "parent"]
theorem sc_Document_level_in : FnScope N_Document_level_in P_Document_level_in (defScope s_Document_level_in) := ⟨rfl, rfl, rfl, by decide +kernel, rfl, by decide +kernel, by decide +kernel⟩
theorem d_level_in (T : TC K mg c eN) (F : TopMet K c.D "level_in" "Document.level_in" s_Document_level_in P_Document_level_in) : MetAt P w K mg base CX0 38 c.D "level_in" P_Document_level_in (spLevel c) := by
  refine F.ok sc_Document_level_in (fun vs H Q E h => ?_) (fun fa cdv A outer s H vs Q E hr h => ?_)
  · obtain ⟨_, _, _, _, rfl, _⟩ := h; rfl
  obtain ⟨d, lay, f, p, rfl, D, I, L, hp, q⟩ := h
  have nd := sc_Document_level_in.nd
  refine ⟨_, (pss_cons (ps_set (i := 2) nd rfl (Or.inl rfl) pe_int) (pss_cons (ps_set (i := 3) nd rfl (Or.inl rfl) (pv 1)) (pss_cons (ps_while PassesOwn.never (pt_cmpR op_ne (pv 3) pe_int (nomark _)) (pss_cons (ps_set (i := 3) nd rfl (Or.inl rfl) (pfld (K := K) (pe_dget (hu_of hr) (pfld (K := K) (pv 0) rfl) (pv 3) (fun _ _ => rfl)) rfl)) (pss_one (ps_set (i := 2) nd rfl (Or.inl rfl) (pe_op op_add (pv 2) pe_int))))) (pss_one (ps_ret (pv 2)))))), ?_⟩
  obtain ⟨dx, hd⟩ := D.doc
  refine ⟨_, rfl, ?_⟩
  refine ⟨fun m σ H' => ∃ g : Nat, m = f g ∧ f g ≤ f p ∧ H' = H ∧ Par d g ∧ σ = [some (.ref (lay 0 0)), some (.int (p : Int)), some (.int ((1 + (f p - f g) : Nat) : Int)), some (.int (g : Int))], ⟨f p, p, rfl, Nat.le_refl _, rfl, hp, by rw [Nat.sub_self]; rfl⟩, ?_⟩
  rintro m σ H' ⟨g, rfl, le, rfl, pg, rfl⟩
  refine ⟨_, rfl, rfl, _, rfl, ?_⟩
  by_cases c0 : g = 0
  · subst c0
    refine (if_neg (by simp)).mpr ⟨_, rfl, ?_⟩
    rw [L.zero, Nat.sub_zero, Nat.add_comm]
    exact q
  · refine (if_pos (by simp; omega)).mpr ?_
    rcases pg with z | ⟨l, hl, rfl, gk⟩
    · exact absurd z c0
    obtain ⟨kvs, hk, hv⟩ := D.val I l.id
    rw [find_of I hl] at hv
    obtain ⟨dl, hi⟩ := D.ins l hl
    have u := L.up l hl
    refine ⟨fun σ H'' => ∃ g' : Nat, f g' < f l.id ∧ H'' = H' ∧ Par d g' ∧ f g' ≤ f p ∧ σ = [some (.ref (lay 0 0)), some (.int (p : Int)), some (.int ((1 + (f p - f g') : Nat) : Int)), some (.int (g' : Int))], ?_, ?_⟩
    · rintro σ' H'' ⟨g', lt, rfl, pg', le', rfl⟩
      exact ⟨f g', lt, g', rfl, le', rfl, pg', rfl⟩
    · have dg := DGet.k (k := Sum.inl (l.id : Int)) hk
      rw [hv] at dg
      refine ⟨_, rfl, _, _, _, _, _, rfl, hd, T.cD, T.nD _ (by decide), rfl, _, rfl, _, .ref (lay l.id 0), rfl, dg, _, _, _, _, _, rfl, hi, T.cO _, T.nO _ _ (inBase (by decide) _), rfl, ?_⟩
      refine ⟨_, rfl, _, _, rfl, rfl, l.parent, by omega, rfl, u.1, by omega, ?_⟩
      have e : ((1 + (f p - f l.id) : Nat) : Int) + 1 = ((1 + (f p - f l.parent) : Nat) : Int) := by omega
      rw [← e]
      rfl
def spInner (c : CAd) : Sp := fun vs H Q _ => ∃ (d : Doc) (lay : Lay) (f : Nat → Nat) (n : Nat), vs = [.ref (lay 0 0), .int (n : Int)] ∧ DocI c H d lay ∧ DocM H d lay ∧ Ids d ∧ Lev d f ∧ d.layers.length ≤ 12 ∧ (∃ l ∈ d.layers, l.id = n) ∧
  ∀ D H' found, H D = none → Same H H' → H' D = some (.lst (natV found)) → found.Perm (sub d n) → Q (.ref D) H'
theorem natV_append (a b : List Nat) : natV (a ++ b) = natV a ++ natV b := List.map_append
theorem natV_length (a : List Nat) : (natV a).length = a.length := List.length_map _
theorem natV_get {a : List Nat} {i x : Nat} (h : a[i]? = some x) : (natV a)[i]? = some (.int (x : Int)) := by
  unfold natV
  rw [List.getElem?_map, h]
  rfl
abbrev s_Document_with_inner : Stmt := inClass (topS 13) 6
abbrev N_Document_with_inner : List Str := ["self", "number", "found", "looked_at", "layer"]
abbrev P_Document_with_inner : List Str := ["self", "number"]
theorem sc_Document_with_inner : FnScope N_Document_with_inner P_Document_with_inner (defScope s_Document_with_inner) := ⟨rfl, rfl, rfl, by decide +kernel, rfl, by decide +kernel, by decide +kernel⟩
theorem d_with_inner (T : TC K mg c eN) (F : TopMet K c.D "with_inner" "Document.with_inner" s_Document_with_inner P_Document_with_inner) : MetAt P w K mg base CX0 38 c.D "with_inner" P_Document_with_inner (spInner c) := by
  refine F.ok sc_Document_with_inner (fun vs H Q E h => ?_) (fun fa cdv A outer s H vs Q E hr h => ?_)
  · obtain ⟨_, _, _, _, rfl, _⟩ := h; rfl
  obtain ⟨d, lay, f, n, rfl, D, M, I, L, len, ⟨l0, hl0, rfl⟩, q⟩ := h
  have nd := sc_Document_with_inner.nd
  refine ⟨_, (pss_cons (ps_set (i := 2) nd rfl (Or.inl rfl) (pe_lst (pa_cons (pv 1) pa_nil))) (pss_cons (ps_set (i := 3) nd rfl (Or.inl rfl) pe_int) (pss_cons (ps_while PassesOwn.never (pt_cmpR op_lt (pv 3) (pe_callB call_len_seq (by rfl) T.n_len (by decide +kernel) (pa_cons (pv 2) pa_nil)) (nomark _)) (pss_cons (ps_set (i := 4) nd rfl (Or.inl rfl) (pe_dget (hu_of hr) (pfld (K := K) (pv 0) rfl) (pe_ix (r := rIxL K) ix_list (pv 2) (pv 3) (fun _ _ => rfl)) (fun _ _ => rfl))) (pss_cons (ps_if (pt_val (pe_callB call_isi (by rfl) T.n_isinstance (by decide +kernel) (pa_cons (pv 4) (pa_cons (pe_glob (v := .ref _) rfl T.c_Group rfl) pa_nil)))) (pss_one (ps_expr (pe_bm PySem.F.plainAttrs_list PySem.F.slot_list_extend PySem.F.type_list_extend mt_extend (pv 2) (pa_cons (pfld (K := K) (pv 4) rfl) pa_nil)))) pss_nil) (pss_one (ps_set (i := 3) nd rfl (Or.inl rfl) (pe_op op_add (pv 3) pe_int)))))) (pss_one (ps_ret (pv 2)))))), ?_⟩
  obtain ⟨dx, hd⟩ := D.doc
  refine ⟨_, rfl, (by show 1 ≤ sizeLine; decide), fun a ha => ?_⟩
  refine ⟨fun m σ H' => ∃ (found : List Nat) (i : Nat) (z : Option V), m + i = d.layers.length ∧ Bfs d l0.id found i ∧ Same H H' ∧ H' a = some (.lst (natV found)) ∧ σ = [some (.ref (lay 0 0)), some (.int (l0.id : Int)), some (.ref a), some (.int (i : Int)), z], ⟨d.layers.length, [l0.id], 0, none, rfl, Bfs.start hl0, Same.new ha, upd_same, rfl⟩, ?_⟩
  rintro m σ H' ⟨found, i, z, em, B, sm, hf, rfl⟩
  refine ⟨_, rfl, _, rfl, a, _, rfl, .inl (.of hf), _, _, rfl, rfl, _, rfl, ?_⟩
  rw [natV_length]
  have bl := B.le
  have bn := B.len
  by_cases lt : i < found.length
  · refine (if_pos (by simp; omega)).mpr ?_
    obtain ⟨x, hx⟩ : ∃ x, found[i]? = some x := ⟨found[i], List.getElem?_eq_getElem lt⟩
    obtain ⟨l, hl, rfl⟩ := B.kn x (List.mem_of_getElem? hx)
    obtain ⟨kvs, hk, hv⟩ := (D.mono sm).val I l.id
    rw [find_of I hl] at hv
    obtain ⟨dl, hi⟩ := (D.mono sm).ins l hl
    obtain ⟨dx, hd⟩ := (D.mono sm).doc
    refine ⟨fun σ H'' => ∃ (found : List Nat) (z : Option V), Bfs d l0.id found (i + 1) ∧ Same H H'' ∧ H'' a = some (.lst (natV found)) ∧ σ = [some (.ref (lay 0 0)), some (.int (l0.id : Int)), some (.ref a), some (.int ((i + 1 : Nat) : Int)), z], ?_, ?_⟩
    · rintro σ' H'' ⟨found', z', B', sm', hf', rfl⟩
      have := B'.len
      have := B'.le
      exact ⟨m - 1, by omega, found', i + 1, z', by omega, B', sm', hf', rfl⟩
    have dg := DGet.k (k := Sum.inl (l.id : Int)) hk
    rw [hv] at dg
    refine ⟨_, rfl, _, _, _, _, _, rfl, hd, T.cD, T.nD _ (by decide), rfl, _, rfl, _, rfl, a, _, _, _, rfl, rfl, .of hf, atI_nat (natV_get hx), _, .ref (lay l.id 0), rfl, dg, ?_⟩
    refine ⟨_, rfl, _, _, _, _, _, rfl, .own _, T.ty hi, T.isG _, _, rfl, ?_⟩
    have B2 := B.step I L hx
    cases hk2 : l.kind with
    | group t =>
      have hi2 := insK hi hk2
      refine (if_pos (by rfl)).mpr ?_
      have hm := (DocM.mono M sm) l.id (.inr ⟨l, hl, rfl, by rw [hk2]; rfl⟩)
      have b2 := B2.len
      rw [List.length_append] at b2
      refine ⟨_, rfl, .inl ⟨rfl, _, .of hf⟩, _, rfl, _, _, _, _, _, rfl, hi2, T.cO (.group t), T.nO (.group t) _ (show _ ∈ namesG by decide), rfl, a, lay l.id 2, _, _, rfl, rfl, hf, hm, ?_, ?_⟩
      · rw [natV_length, natV_length]
        have : (24 : Nat) ≤ sizeLine := by decide
        omega
      · rw [← natV_append]
        refine ⟨_, rfl, _, _, rfl, rfl, found ++ kidIds d l.id, some (.ref (lay l.id 0)), B2, Same.updNew sm ha, upd_same, ?_⟩
        rfl
    | picture =>
      refine (if_neg (by simp)).mpr ?_
      have e0 : kidIds d l.id = [] := by unfold kidIds; rw [kids_nil I L hl (by rw [hk2]; rfl)]; rfl
      rw [e0, List.append_nil] at B2
      exact ⟨_, rfl, _, _, rfl, rfl, found, some (.ref (lay l.id 0)), B2, sm, hf, rfl⟩
    | change h =>
      refine (if_neg (by simp)).mpr ?_
      have e0 : kidIds d l.id = [] := by unfold kidIds; rw [kids_nil I L hl (by rw [hk2]; rfl)]; rfl
      rw [e0, List.append_nil] at B2
      exact ⟨_, rfl, _, _, rfl, rfl, found, some (.ref (lay l.id 0)), B2, sm, hf, rfl⟩
  · refine (if_neg (by simp; omega)).mpr ?_
    obtain rfl : i = found.length := by omega
    exact ⟨_, rfl, q a H' found ha sm hf (B.done I L)⟩
end
end LH

set_option Elab.async false
set_option linter.all false
set_option maxRecDepth 100000
set_option maxHeartbeats 4000000
namespace LH
open PySem PySem.Spec PyProof.Rows L2
open Ie02 (Frac Px Colour Doc Layer)
open LM
theorem natV_eq (l : List Nat) : natV l = (l.map (fun n : Nat => (n : Int))).map V.int := by
  unfold natV
  rw [List.map_map]
  rfl
/-- the places of a box's part on the canvas, row by row -/
theorem rowL_more (w x n r : Nat) : rowL w x (n + 1) r = rowL w x n r ++ [r * w + (x + n)] := range_more _ _
theorem boxL_more (w x y n m : Nat) : boxL w x y n (m + 1) = boxL w x y n m ++ rowL w x n (y + m) := by
  unfold boxL
  rw [List.range_succ, List.flatMap_append, List.flatMap_singleton]
theorem rowL_len (w x n r : Nat) : (rowL w x n r).length = n := by unfold rowL; rw [List.length_map, List.length_range]
theorem boxL_len (w x y n : Nat) : ∀ m, (boxL w x y n m).length = n * m
  | 0 => rfl
  | m + 1 => by rw [boxL_more, List.length_append, boxL_len w x y n m, rowL_len, Nat.mul_succ]
section
variable {P : Program} {w : World} {K : PySem.W.Frag} {mg : Str → Option Value} {base : Heap} {c : CAd} {eN : Addr}
def spLevels (c : CAd) : Sp := fun vs H Q _ => ∃ (d : Doc) (lay : Lay) (f : Nat → Nat) (n : Nat), vs = [.ref (lay 0 0), .int (n : Int)] ∧ DocI c H d lay ∧ DocM H d lay ∧ Ids d ∧ Lev d f ∧ d.layers.length ≤ 12 ∧ (∃ l ∈ d.layers, l.id = n) ∧
  ∀ H', Same H H' → Q (.int (d.height Ie02.LAYERS n : Nat)) H'
abbrev s_Document_levels_of : Stmt := inClass (topS 13) 7
abbrev N_Document_levels_of : List Str := ["self", "number", "above", "one"]
abbrev P_Document_levels_of : List Str := ["self", "number"]
theorem sc_Document_levels_of : FnScope N_Document_levels_of P_Document_levels_of (defScope s_Document_levels_of) := ⟨rfl, rfl, rfl, by decide +kernel, rfl, by decide +kernel, by decide +kernel⟩
theorem d_levels_of (T : TC K mg c eN) (M_level_in : MetAt P w K mg base CX0 38 c.D "level_in" P_Document_level_in (spLevel c)) (M_with_inner : MetAt P w K mg base CX0 38 c.D "with_inner" P_Document_with_inner (spInner c)) (F : TopMet K c.D "levels_of" "Document.levels_of" s_Document_levels_of P_Document_levels_of) :
    MetAt P w K mg base CX0 40 c.D "levels_of" P_Document_levels_of (spLevels c) := by
  refine F.ok sc_Document_levels_of (fun vs H Q E h => ?_) (fun fa cdv A outer s H vs Q E hr h => ?_)
  · obtain ⟨_, _, _, _, rfl, _⟩ := h; rfl
  obtain ⟨d, lay, f, n, rfl, D, M, I, L, len, ⟨l0, hl0, rfl⟩, q⟩ := h
  have nd := sc_Document_levels_of.nd
  refine ⟨_, (pss_cons (ps_set (i := 2) nd rfl (Or.inl rfl) (pe_op op_sub (pm (pv 0) T.cD M_level_in (hr.mono (by omega)) pass0 (pa_cons (pfld (K := K) (pe_dget (hu_of hr) (pfld (K := K) (pv 0) rfl) (pv 1) (fun _ _ => rfl)) rfl) pa_nil)) pe_int)) (pss_one (ps_ret (pe_op op_sub (pe_callB (cr_max rfl) (by rfl) T.n_max (by decide +kernel) (pa_cons (pe_lc (own := [("one", 3)]) (g := gName 3) (tt := tYes) rfl nd (pi_list (pm (pv 0) T.cD M_with_inner (hr.mono (by omega)) pass0 (pa_cons (pv 1) pa_nil))) (blkOk_by (own := [("one", 3)]) (N := N_Document_levels_of) (sc := defScope s_Document_levels_of) (by decide +kernel)) (fun _ _ _ _ _ => pg_name (i := 3) nd rfl (Or.inl rfl)) (fun _ _ _ _ _ => pts_nil) (fun _ _ _ _ _ => (pm (pv 0) T.cD M_level_in (hr.mono (by omega)) pass0 (pa_cons (pfld (K := K) (pe_dget (hu_of hr) (pfld (K := K) (pv 0) rfl) (pv 3) (fun _ _ => rfl)) rfl) pa_nil)))) pa_nil)) (pv 2))))), ?_⟩
  obtain ⟨dx, hd⟩ := D.doc
  have look : ∀ {H' : Hp} {l : Layer}, Same H H' → l ∈ d.layers → DGet H' (lay 0 1) (V.int (l.id : Int)) (some (.ref (lay l.id 0))) := fun {H' l} sm hl => by
    obtain ⟨kvs, hk, hv⟩ := (D.mono sm).val I l.id
    rw [find_of I hl] at hv
    have dg := DGet.k (k := Sum.inl (l.id : Int)) hk
    rw [hv] at dg
    exact dg
  obtain ⟨dl, hi⟩ := D.ins l0 hl0
  have u0 := L.up l0 hl0
  refine ⟨_, rfl, lay 0 0, dx, _, rfl, hd, rfl, _, rfl, _, _, _, _, _, rfl, hd, T.cD, T.nD _ (by decide), rfl, _, rfl, _, .ref (lay l0.id 0), rfl, look (Same.refl _) hl0, _, _, _, _, _, rfl, hi, T.cO _, T.nO _ _ (inBase (by decide) _), rfl, ?_⟩
  refine ⟨d, lay, f, l0.parent, rfl, D, I, L, u0.1, _, _, rfl, rfl, ?_⟩
  refine ⟨_, rfl, lay 0 0, dx, _, rfl, hd, rfl, _, rfl, d, lay, f, l0.id, rfl, D, M, I, L, len, ⟨l0, hl0, rfl⟩, fun D0 H1 found hD0 s1 h1 pf => ?_⟩
  refine ⟨D0, rfl, ⟨_, .of h1⟩, fun D1 hD1 => ?_⟩
  refine lc_list (K := K) (a := D0) (xs := natV found) (fun i H' => AccN H1 D1 ((found.take i).map f) H') (AccN.start hD1) (fun i H' _ acc => Same.seq acc.same (.of h1)) ?_ ?_
  · intro i x H' hix acc
    obtain ⟨y, hy, rfl⟩ := natV_at hix
    have sm := s1.trans acc.same
    obtain ⟨⟨l, hl, rfl⟩, dl⟩ := (sub_mem I L).mp (pf.mem_iff.mp (List.mem_of_getElem? hy))
    obtain ⟨dx2, hd2⟩ := (D.mono sm).doc
    obtain ⟨dl2, hi2⟩ := (D.mono sm).ins l hl
    have u := L.up l hl
    refine ⟨rfl, tYes_go ?_⟩
    refine ⟨_, rfl, lay 0 0, dx2, _, rfl, hd2, rfl, _, rfl, _, _, _, _, _, rfl, hd2, T.cD, T.nD _ (by decide), rfl, _, rfl, _, .ref (lay l.id 0), rfl, look sm hl, _, _, _, _, _, rfl, hi2, T.cO _, T.nO _ _ (inBase (by decide) _), rfl, ?_⟩
    refine ⟨d, lay, f, l.parent, rfl, D.mono sm, I, L, u.1, ?_⟩
    have e := acc.step (k := f l.id) (Same.refl _) (by
      have := pf.length_eq
      have h2 : (sub d l0.id).length ≤ d.layers.length := by unfold sub; rw [List.length_map]; exact List.length_filter_le _ _
      rw [List.length_map, List.length_take]
      omega)
    rw [← map_take_more hy] at e
    rw [← u.2.1]
    exact e
  · intro H' acc
    rw [natV_length, List.take_length] at acc
    have hm := acc.at_
    rw [natV_eq] at hm
    have sm := s1.trans acc.same
    obtain ⟨⟨x, x1, x2, x3⟩, all⟩ := height_max I L Ie02.LAYERS l0.id (.inr ⟨l0, hl0, rfl⟩) (by show 4 < 12 + _; omega)
    have hx0 : Known d x → Des d l0.id x → ∃ l ∈ d.layers, l.id = x := fun k e => by
      rcases k with rfl | k
      · have h1 := e.lev L
        have h2 := L.pos hl0
        rw [L.zero] at h1
        omega
      · exact k
    have mem : ∀ y, y ∈ found ↔ (∃ l ∈ d.layers, l.id = y) ∧ Des d l0.id y := fun y => pf.mem_iff.trans (sub_mem I L)
    have xm : x ∈ found := (mem x).mpr ⟨hx0 x2 x1, x1⟩
    refine ⟨D1, _, rfl, .of hm, ?_, fun mx hmx hall => ⟨_, rfl, _, _, rfl, rfl, ?_⟩⟩
    · rw [List.length_map, List.length_map]
      exact List.length_pos_of_mem xm
    · have e : mx = ((d.height Ie02.LAYERS l0.id + f l0.id - 1 : Nat) : Int) := by
        rw [List.mem_map] at hmx
        obtain ⟨z, hz, rfl⟩ := hmx
        rw [List.mem_map] at hz
        obtain ⟨y, hy, rfl⟩ := hz
        have h1 := hall ((f x : Nat) : Int) (List.mem_map.mpr ⟨f x, List.mem_map.mpr ⟨x, xm, rfl⟩, rfl⟩)
        have h2 := all y ((mem y).mp hy).2
        omega
      have h3 := u0.2.1
      have g : mx - (((f l0.parent + 1 : Nat) : Int) - 1) = ((d.height Ie02.LAYERS l0.id : Nat) : Int) := by
        rw [e]
        omega
      have qq := q H' sm
      rw [← g] at qq
      exact qq
abbrev s_Document_size : Stmt := inClass (topS 13) 2
abbrev N_Document_size : List Str := ["self"]
abbrev P_Document_size : List Str := ["self"]
theorem sc_Document_size : FnScope N_Document_size P_Document_size (defScope s_Document_size) := ⟨rfl, rfl, rfl, by decide +kernel, rfl, by decide +kernel, by decide +kernel⟩
def spSize (c : CAd) : Sp := fun vs H Q _ => ∃ (d : Doc) (lay : Lay), vs = [.ref (lay 0 0)] ∧ (∃ dx, H (lay 0 0) = some (.ins c.D dx (docF d lay))) ∧ d.w ≤ 6 ∧ Q (.int ((d.w * d.h : Nat) : Int)) H
theorem d_size (T : TC K mg c eN) (F : TopMet K c.D "size" "Document.size" s_Document_size P_Document_size) : MetAt P w K mg base CX0 38 c.D "size" P_Document_size (spSize c) := by
  refine F.ok sc_Document_size (fun vs H Q E h => ?_) (fun fa cdv A outer s H vs Q E hr h => ?_)
  · obtain ⟨_, _, rfl, _⟩ := h; rfl
  obtain ⟨d, lay, rfl, ⟨dx, hd⟩, hw, q⟩ := h
  have nd := sc_Document_size.nd
  refine ⟨_, (pss_one (ps_ret (pe_op op_mulB (pfld (K := K) (pv 0) rfl) (pfld (K := K) (pv 0) rfl)))), ?_⟩
  exact ⟨_, rfl, _, _, _, _, _, rfl, hd, T.cD, T.nD _ (by decide), rfl, _, rfl, _, _, _, _, _, rfl, hd, T.cD, T.nD _ (by decide), rfl, _, _, rfl, rfl, mulSmall (by constructor <;> omega), q⟩
def spBox (c : CAd) : Sp := fun vs H Q _ => ∃ (d : Doc) (lay : Lay) (x y u v : Nat), vs = [.ref (lay 0 0), .int (x : Int), .int (y : Int), .int (u : Int), .int (v : Int)] ∧ (∃ dx, H (lay 0 0) = some (.ins c.D dx (docF d lay))) ∧ d.w ≤ 6 ∧ d.h ≤ 6 ∧ x < 2 ^ 32 ∧ y < 2 ^ 32 ∧
  ∀ D H', H D = none → Same H H' → H' D = some (.lst (natV (boxP d x y u v))) → Q (.ref D) H'
abbrev s_Document_box : Stmt := inClass (topS 13) 11
abbrev N_Document_box : List Str := ["self", "x", "y", "width", "height", "right", "bottom", "places", "row", "column"]
abbrev P_Document_box : List Str := ["self", "x", "y", "width", "height"]
theorem sc_Document_box : FnScope N_Document_box P_Document_box (defScope s_Document_box) := ⟨rfl, rfl, rfl, by decide +kernel, rfl, by decide +kernel, by decide +kernel⟩
theorem min_cast (a b : Nat) : (if (b : Int) < (a : Int) then (b : Int) else (a : Int)) = ((min a b : Nat) : Int) := by
  split <;> omega
theorem d_box (T : TC K mg c eN) (F : TopMet K c.D "box" "Document.box" s_Document_box P_Document_box) : MetAt P w K mg base CX0 38 c.D "box" P_Document_box (spBox c) := by
  refine F.ok sc_Document_box (fun vs H Q E h => ?_) (fun fa cdv A outer s H vs Q E hr h => ?_)
  · obtain ⟨_, _, _, _, _, _, rfl, _⟩ := h; rfl
  obtain ⟨d, lay, x, y, u, v, rfl, ⟨dx, hd⟩, hw, hh, hx, hy, q⟩ := h
  have nd := sc_Document_box.nd
  refine ⟨_, (pss_cons (ps_set (i := 5) nd rfl (Or.inl rfl) (pe_callB (call_min2 rfl) (by rfl) T.n_min (by decide +kernel) (pa_cons (pe_op op_add (pv 1) (pv 3)) (pa_cons (pfld (K := K) (pv 0) rfl) pa_nil)))) (pss_cons (ps_set (i := 6) nd rfl (Or.inl rfl) (pe_callB (call_min2 rfl) (by rfl) T.n_min (by decide +kernel) (pa_cons (pe_op op_add (pv 2) (pv 4)) (pa_cons (pfld (K := K) (pv 0) rfl) pa_nil)))) (pss_cons (ps_set (i := 7) nd rfl (Or.inl rfl) (pe_lst pa_nil)) (pss_cons (ps_for PassesOwn.never rfl (pi_range2 rfl T.n_range (pa_cons (pv 2) (pa_cons (pv 6) pa_nil))) (pg_name (i := 8) nd rfl (Or.inl rfl)) (pss_one (ps_for PassesOwn.never rfl (pi_range2 rfl T.n_range (pa_cons (pv 1) (pa_cons (pv 5) pa_nil))) (pg_name (i := 9) nd rfl (Or.inl rfl)) (pss_one (ps_expr (pe_bm PySem.F.plainAttrs_list PySem.F.slot_list_append PySem.F.type_list_append mt_append (pv 7) (pa_cons (pe_op op_add (pe_op op_mulB (pv 8) (pfld (K := K) (pv 0) rfl)) (pv 9)) pa_nil))))))) (pss_one (ps_ret (pv 7))))))), ?_⟩
  refine ⟨_, rfl, _, rfl, _, _, rfl, rfl, _, rfl, _, _, _, _, _, rfl, hd, T.cD, T.nD _ (by decide), rfl, _, _, rfl, ?_⟩
  refine ⟨_, rfl, _, rfl, _, _, rfl, rfl, _, rfl, _, _, _, _, _, rfl, hd, T.cD, T.nD _ (by decide), rfl, _, _, rfl, ?_⟩
  have e1 := min_cast (x + u) d.w
  have e2 := min_cast (y + v) d.h
  rw [Int.natCast_add] at e1 e2
  refine ⟨(by show 0 ≤ sizeLine; omega), fun a ha => ?_⟩
  have hR : inRow x u d.w ≤ 6 := by unfold inRow; omega
  have hM : inRow y v d.h ≤ 6 := by unfold inRow; omega
  have p32 : (2 : Nat) ^ 32 = 4294967296 := by decide
  have p62 : (2 : Int) ^ 62 = 4611686018427387904 := by decide
  rw [p32] at hx hy
  refine ⟨_, rfl, _, rfl, (y : Int), ((min (y + v) d.h : Nat) : Int), by rw [← e2], ⟨by rw [p62]; omega, by rw [p62]; omega, by rw [p62]; omega, by rw [p62]; omega⟩, ?_⟩
  have eM : (((min (y + v) d.h : Nat) : Int) - (y : Int)).toNat = inRow y v d.h := by unfold inRow; omega
  rw [eM]
  refine for_range (lo := (y : Int)) (n := inRow y v d.h) (fun k σ H' => Same H H' ∧ H' a = some (.lst (natV (boxL d.w x y (inRow x u d.w) k))) ∧ ∃ z1 z2, σ = [some (.ref (lay 0 0)), some (.int (x : Int)), some (.int (y : Int)), some (.int (u : Int)), some (.int (v : Int)), some (.int ((min (x + u) d.w : Nat) : Int)), some (.int ((min (y + v) d.h : Nat) : Int)), some (.ref a), z1, z2]) ⟨Same.new ha, upd_same, none, none, by rw [← e1, ← e2]; rfl⟩ ?_ ?_
  · rintro k σ H' hk ⟨sm, hl, z1, z2, rfl⟩
    refine ⟨_, rfl, _, rfl, (x : Int), ((min (x + u) d.w : Nat) : Int), rfl, ⟨by rw [p62]; omega, by rw [p62]; omega, by rw [p62]; omega, by rw [p62]; omega⟩, ?_⟩
    have eR : (((min (x + u) d.w : Nat) : Int) - (x : Int)).toNat = inRow x u d.w := by unfold inRow; omega
    rw [eR]
    refine for_range (lo := (x : Int)) (n := inRow x u d.w) (fun j σ H'' => Same H H'' ∧ H'' a = some (.lst (natV (boxL d.w x y (inRow x u d.w) k ++ rowL d.w x j (y + k)))) ∧ ∃ z2, σ = [some (.ref (lay 0 0)), some (.int (x : Int)), some (.int (y : Int)), some (.int (u : Int)), some (.int (v : Int)), some (.int ((min (x + u) d.w : Nat) : Int)), some (.int ((min (y + v) d.h : Nat) : Int)), some (.ref a), some (.int ((y : Int) + (k : Int))), z2]) ⟨sm, by rw [show rowL d.w x 0 (y + k) = [] from rfl, List.append_nil]; exact hl, z2, rfl⟩ ?_ ?_
    · rintro j σ H'' hj ⟨sm2, hl2, z2, rfl⟩
      have hd2 := sm2 _ _ hd
      refine ⟨_, rfl, .inl ⟨rfl, _, .of hl2⟩, _, rfl, _, rfl, _, _, _, _, _, rfl, hd2, T.cD, T.nD _ (by decide), rfl, _, _, rfl, rfl, .of_right (intBits_le_64 (by omega) (by omega)), _, rfl, _, _, rfl, rfl, a, _, _, rfl, rfl, hl2, ?_, ?_⟩
      · rw [natV_length, List.length_append, boxL_len, rowL_len]
        have h1 : inRow x u d.w * k ≤ 6 * 6 := Nat.mul_le_mul hR (by omega)
        have : (100 : Nat) < sizeLine := by decide
        omega
      · refine ⟨Same.updNew sm2 ha, ?_, some (.int ((x : Int) + (j : Int))), rfl⟩
        rw [upd_same, rowL_more, ← List.append_assoc, natV_append (boxL d.w x y (inRow x u d.w) k ++ rowL d.w x j (y + k))]
        rfl
    · rintro σ H'' ⟨sm2, hl2, z2, rfl⟩
      refine ⟨sm2, ?_, some (.int ((y : Int) + (k : Int))), z2, rfl⟩
      rw [boxL_more]
      exact hl2
  · rintro σ H' ⟨sm, hl, z1, z2, rfl⟩
    exact ⟨_, rfl, q a H' ha sm hl⟩
end
end LH

set_option Elab.async false
set_option linter.all false
set_option maxRecDepth 100000
set_option maxHeartbeats 4000000
namespace LH
open PySem PySem.Spec PyProof.Rows L2
open Ie02 (Frac Px Colour Doc Layer)
open LM
/-! a list != [] -/
section
variable {X : Cx}
theorem op_neL (hu : X.A.units < cLine) : OpR X (compareOp .NotEq) (fun x y H Q => ∃ (a b : Addr) (xs : List V), x = .ref a ∧ y = .ref b ∧ SqL X.K H a xs ∧ SqL X.K H b [] ∧ Q (.bl (decide (xs ≠ []))) H) := by
  intro pins s σ H x y v u Q I rx ry h
  obtain ⟨a, b, xs, rfl, rfl, ha, hb, q⟩ := h
  cases rx
  cases ry
  obtain ⟨its, rv, ⟨o, n, ho, hc, _, hd⟩, _⟩ := I.list ha
  obtain ⟨its2, rv2, ⟨o2, n2, ho2, hc2, _, hd2⟩, _⟩ := I.list hb
  have e2 : its2 = [] := by
    have := rv2.length
    exact List.length_eq_zero_iff.mp this.symm
  subst e2
  have go : ∀ bb : Bool, bb = decide (xs ≠ []) → SeqAt.RcNeAt X.A s (.ref a) (.ref b) bb → wpAny (model X.prog X.w) X.A (compareOp .NotEq (.ref a) (.ref b)) (EP X pins σ Q) X.xe s := fun bb e r => r _ _ _ _ ⟨.bl bb, H, I, rfl, by rw [e]; exact q⟩
  cases xs with
  | nil =>
    have e1 : its = [] := by
      have := rv.length
      exact List.length_eq_zero_iff.mp this.symm
    subst e1
    exact go false rfl (SeqAt.RcNeAt.lists (e := fun _ => true) ⟨o, ho, hc, n, hd⟩ ⟨o2, ho2, hc2, n2, hd2⟩ rfl hu fun j h1 => absurd h1 (Nat.not_lt_zero j))
  | cons z zs =>
    have e1 : its.length = zs.length + 1 := rv.length.symm
    exact go true (by simp) (SeqAt.RcNeAt.lists_lengths ⟨o, ho, hc, n, hd⟩ ⟨o2, ho2, hc2, n2, hd2⟩ (by simp [e1]) hu)
end
/-! masks and pixels -/
def normQ (q : Nat × Nat × Nat × Nat) : Nat × Nat × Nat × Nat := if q.2.2.2 = 0 then (0, 0, 0, 0) else q
def CellAt (K : PySem.W.Frag) (H : Hp) (v : V) (q : Nat × Nat × Nat × Nat) : Prop := ∃ a, v = .ref a ∧ SqT K H a (natV (fourL (normQ q)))
def DocK (H : Hp) (d : Doc) (lay : Lay) : Prop := ∀ l ∈ d.layers, H (lay l.id 1) = some (.lst (natV l.mask))
def DocP (K : PySem.W.Frag) (H : Hp) (d : Doc) (lay : Lay) : Prop := ∀ l ∈ d.layers, l.kind = .picture → ∃ xs, H (lay l.id 2) = some (.lst xs) ∧ Paired (CellAt K H) xs l.cells
section
variable {K : PySem.W.Frag} {H H' : Hp} {d : Doc} {lay : Lay}
theorem CellAt.mono {v : V} {q : Nat × Nat × Nat × Nat} (h : CellAt K H v q) (e : Same H H') : CellAt K H' v q := let ⟨a, r, s⟩ := h; ⟨a, r, Same.seqT e s⟩
theorem DocK.mono (h : DocK H d lay) (s : Same H H') : DocK H' d lay := fun l hl => s _ _ (h l hl)
theorem DocP.mono (h : DocP K H d lay) (s : Same H H') : DocP K H' d lay := fun l hl hk => let ⟨xs, h1, h2⟩ := h l hl hk; ⟨xs, s _ _ h1, L2.Paired.mapP h2 fun _ _ x => CellAt.mono x s⟩
end
theorem byte_norm (l : Layer) (i : Nat) (q : Nat × Nat × Nat × Nat) (h : l.cells[i]? = some q) : bytePx (normQ q) = l.px i := by
  unfold Layer.px normQ
  rw [List.getD_eq_getElem?_getD, h]
  dsimp only [Option.getD_some]
  by_cases c : q.2.2.2 = 0
  · rw [if_pos c, if_pos c]
    rfl
  · rw [if_neg c, if_neg c]
    rfl
section
variable {P : Program} {w : World} {K : PySem.W.Frag} {mg : Str → Option Value} {base : Heap} {c : CAd} {eN : Addr}
def InsAt (c : CAd) (H : Hp) (l : Layer) (ly : Nat → Addr) : Prop := ∃ dx, H (ly 0) = some (.ins (c.of l.kind) dx (flds l ly))
def spWeight (K : PySem.W.Frag) (c : CAd) : Sp := fun vs H Q _ => ∃ (l : Layer) (ly : Nat → Addr) (i n : Nat), vs = [.ref (ly 0), .int (i : Int)] ∧ InsAt c H l ly ∧ H (ly 1) = some (.lst (natV l.mask)) ∧ LOk n l ∧ i < n ∧
  ∀ z H', Same H H' → FAt K H' z (l.weight i) → Q z H'
abbrev s_weight_at : Stmt := topS 51
abbrev N_weight_at : List Str := ["layer", "place"]
abbrev P_weight_at : List Str := ["layer", "place"]
theorem sc_weight_at : FnScope N_weight_at P_weight_at (defScope s_weight_at) := ⟨rfl, rfl, rfl, by decide +kernel, rfl, by decide +kernel, by decide +kernel⟩
theorem d_weight_at (T : TC K mg c eN) (G_ratio : DefAt P w K mg base CX0 37 "ratio" P_ratio (spRatio K)) (F : TopFn K mg "weight_at" "weight_at" s_weight_at P_weight_at) : DefAt P w K mg base CX0 38 "weight_at" P_weight_at (spWeight K c) := by
  refine F.ok sc_weight_at (fun vs H Q E h => ?_) (fun fa cdv A outer s H vs Q E hr h => ?_)
  · obtain ⟨_, _, _, _, rfl, _⟩ := h; rfl
  obtain ⟨l, ly, i, n, rfl, ⟨dx, hi⟩, hm, lo, hn, q⟩ := h
  have nd := sc_weight_at.nd
  obtain ⟨m, hm2, _, e, _, _⟩ := weight_ok lo hn
  have m255 : m ≤ 255 := lo.mask m (List.mem_of_getElem? hm2)
  have o255 := lo.op
  refine ⟨_, (pss_one (ps_ret (pc G_ratio (hr.mono (by omega)) pass0 (pa_cons (pe_op op_mulB (pfld (K := K) (pv 0) rfl) (pe_ix (r := rIxL K) ix_list (pfld (K := K) (pv 0) rfl) (pv 1) (fun _ _ => rfl))) (pa_cons (pe_op op_mulB pe_int pe_int) pa_nil))))), ?_⟩
  refine ⟨_, rfl, _, _, _, _, _, rfl, hi, T.cO _, T.nO _ _ (inBase (by decide) _), rfl, _, rfl, _, _, _, _, _, rfl, hi, T.cO _, T.nO _ _ (inBase (by decide) _), rfl, _, rfl, ly 1, _, _, _, rfl, rfl, .of hm, atI_nat (natV_get hm2), _, _, rfl, rfl, mulSmall (by constructor <;> omega), _, _, rfl, rfl, mulSmall (by decide), l.opacity * m, 255 * 255, rfl, by decide, fun z H' s' hz => q z H' s' ?_⟩
  rw [← e]
  exact hz
def passB (k : LKind) : Bool := match k with
  | .group t => t
  | _ => false
def spThru (c : CAd) : Sp := fun vs H Q _ => ∃ (l : Layer) (ly : Nat → Addr), vs = [.ref (ly 0)] ∧ InsAt c H l ly ∧ Q (.bl (passB l.kind)) H
abbrev s_is_pass_through : Stmt := topS 52
abbrev N_is_pass_through : List Str := ["layer"]
abbrev P_is_pass_through : List Str := ["layer"]
theorem sc_is_pass_through : FnScope N_is_pass_through P_is_pass_through (defScope s_is_pass_through) := ⟨rfl, rfl, rfl, by decide +kernel, rfl, by decide +kernel, by decide +kernel⟩
theorem d_is_pass_through (T : TC K mg c eN) (F : TopFn K mg "is_pass_through" "is_pass_through" s_is_pass_through P_is_pass_through) : DefAt P w K mg base CX0 38 "is_pass_through" P_is_pass_through (spThru c) := by
  refine F.ok sc_is_pass_through (fun vs H Q E h => ?_) (fun fa cdv A outer s H vs Q E hr h => ?_)
  · obtain ⟨_, _, rfl, _⟩ := h; rfl
  obtain ⟨l, ly, rfl, ⟨dx, hi⟩, q⟩ := h
  have nd := sc_is_pass_through.nd
  refine ⟨_, (pss_one (ps_ret (pe_and (pe_callB call_isi (by rfl) T.n_isinstance (by decide +kernel) (pa_cons (pv 0) (pa_cons (pe_glob (v := .ref _) rfl T.c_Group rfl) pa_nil))) (pe_one (pe_cmpR op_eq (pfld (K := K) (pv 0) rfl) pe_int (nomark _)))))), ?_⟩
  refine ⟨_, rfl, _, _, _, _, _, rfl, .own _, T.ty hi, T.isG _, _, rfl, ?_⟩
  cases hk : l.kind with
  | picture =>
    rw [hk] at q
    exact q
  | change h =>
    rw [hk] at q
    exact q
  | group t =>
    rw [hk] at q
    have hi2 := insK hi hk
    refine ⟨_, rfl, _, _, _, _, _, rfl, hi2, T.cO (.group t), T.nO (.group t) _ (show _ ∈ namesG by decide), rfl, rfl, ?_⟩
    cases t
    · exact q
    · exact q
def spBase (c : CAd) : Sp := fun vs H Q _ => ∃ (l : Layer) (ly : Nat → Addr), vs = [.ref (ly 0)] ∧ InsAt c H l ly ∧ Q (.bl l.base) H
abbrev s_can_be_base : Stmt := topS 53
abbrev N_can_be_base : List Str := ["layer"]
abbrev P_can_be_base : List Str := ["layer"]
theorem sc_can_be_base : FnScope N_can_be_base P_can_be_base (defScope s_can_be_base) := ⟨rfl, rfl, rfl, by decide +kernel, rfl, by decide +kernel, by decide +kernel⟩
theorem d_can_be_base (T : TC K mg c eN) (G_is_pass_through : DefAt P w K mg base CX0 38 "is_pass_through" P_is_pass_through (spThru c)) (F : TopFn K mg "can_be_base" "can_be_base" s_can_be_base P_can_be_base) : DefAt P w K mg base CX0 39 "can_be_base" P_can_be_base (spBase c) := by
  refine F.ok sc_can_be_base (fun vs H Q E h => ?_) (fun fa cdv A outer s H vs Q E hr h => ?_)
  · obtain ⟨_, _, rfl, _⟩ := h; rfl
  obtain ⟨l, ly, rfl, ⟨dx, hi⟩, q⟩ := h
  have nd := sc_can_be_base.nd
  refine ⟨_, (pss_one (ps_ret (pe_and (pe_not (pe_callB call_isi (by rfl) T.n_isinstance (by decide +kernel) (pa_cons (pv 0) (pa_cons (pe_glob (v := .ref _) rfl T.c_AdjustmentLayer rfl) pa_nil)))) (pe_one (pe_not (pc G_is_pass_through (hr.mono (by omega)) pass0 (pa_cons (pv 0) pa_nil))))))), ?_⟩
  refine ⟨_, rfl, _, _, _, _, _, rfl, .own _, T.ty hi, T.isA _, _, rfl, ?_⟩
  have eb : l.base = match l.kind with
      | .picture => true
      | .group t => !t
      | .change _ => false := rfl
  cases hk : l.kind with
  | picture =>
    rw [eb, hk] at q
    refine ⟨_, rfl, (if_pos (by rfl)).mpr ⟨_, rfl, l, ly, rfl, ⟨dx, hi⟩, _, rfl, ?_⟩⟩
    rw [hk]
    exact q
  | change h =>
    rw [eb, hk] at q
    exact ⟨_, rfl, (if_neg (by simp)).mpr q⟩
  | group t =>
    rw [eb, hk] at q
    refine ⟨_, rfl, (if_pos (by rfl)).mpr ⟨_, rfl, l, ly, rfl, ⟨dx, hi⟩, _, rfl, ?_⟩⟩
    rw [hk]
    exact q
end
end LH

set_option Elab.async false
set_option linter.all false
set_option maxRecDepth 100000
set_option maxHeartbeats 4000000
namespace LH
open PySem PySem.Spec PyProof.Rows L2
open Ie02 (Frac Px Colour Doc Layer)
open LM
/-! stacks in the heap -/
def refsL (lay : Lay) (ls : List Layer) : List V := ls.map fun l => V.ref (lay l.id 0)
def StkAt (N : List Addr) (H : Hp) (lay : Lay) (v : V) (r : Layer × List Layer) : Prop := ∃ t o, v = .ref t ∧ t ∉ N ∧ o ∉ N ∧ H t = some (.tup [.ref (lay r.1.id 0), .ref o]) ∧ H o = some (.lst (refsL lay r.2))
abbrev StksAt (N : List Addr) (H : Hp) (lay : Lay) (xs : List V) (ss : List (Layer × List Layer)) : Prop := Paired (StkAt N H lay) xs ss
section
variable {N : List Addr} {H H2 : Hp} {lay : Lay} {xs ys : List V} {ss tt : List (Layer × List Layer)} {o : Addr}
theorem StksAt.fresh (h : StksAt N H lay xs ss) (n : H o = none) : StksAt (o :: N) H lay xs ss := L2.Paired.mapP h fun v r ⟨t, p, e, h1, h2, h3, h4⟩ =>
  ⟨t, p, e, fun m => by
    rcases List.mem_cons.mp m with rfl | m
    · rw [n] at h3; cases h3
    · exact h1 m, fun m => by
    rcases List.mem_cons.mp m with rfl | m
    · rw [n] at h4; cases h4
    · exact h2 m, h3, h4⟩
theorem StksAt.move (h : StksAt N H lay xs ss) (k : ∀ a u, a ∉ N → H a = some u → H2 a = some u) : StksAt N H2 lay xs ss := L2.Paired.mapP h fun v r ⟨t, p, e, h1, h2, h3, h4⟩ => ⟨t, p, e, h1, h2, k _ _ h1 h3, k _ _ h2 h4⟩
theorem StksAt.less (h : StksAt (o :: N) H lay xs ss) : StksAt N H lay xs ss := L2.Paired.mapP h fun v r ⟨t, p, e, h1, h2, h3, h4⟩ => ⟨t, p, e, fun m => h1 (List.mem_cons_of_mem _ m), fun m => h2 (List.mem_cons_of_mem _ m), h3, h4⟩
theorem paired_app {α β : Type} {R : α → β → Prop} : ∀ {a c : List α} {b e : List β}, Paired R a b → Paired R c e → Paired R (a ++ c) (b ++ e)
  | _, _, _, _, .nil, h => h
  | _, _, _, _, .cons r t, h => .cons r (paired_app t h)
end
/-- after some layers -/
structure CI (H0 : Hp) (D : Addr) (lay : Lay) (s : List (Layer × List Layer) × Bool) (b : V) (n : Nat) (H : Hp) : Prop where
  same : Same H0 H
  new : H0 D = none
  ex : ∃ xs, H D = some (.lst xs) ∧ xs.length ≤ n ∧ ((s.2 = false ∧ b = .non ∧ StksAt [D] H lay xs s.1) ∨
    (s.2 = true ∧ ∃ ys t o ss l cs, xs = ys ++ [.ref t] ∧ s.1 = ss ++ [(l, cs)] ∧ b = .ref o ∧ H0 o = none ∧ o ≠ D ∧ t ≠ D ∧ t ≠ o ∧ H t = some (.tup [.ref (lay l.id 0), .ref o]) ∧ H o = some (.lst (refsL lay cs)) ∧ StksAt [o, D] H lay ys ss ∧ cs.length ≤ n))
section
variable {H0 H H2 H3 : Hp} {D : Addr} {lay : Lay} {s : List (Layer × List Layer) × Bool} {b : V} {n : Nat}
theorem CI.start (h : H0 D = none) : CI H0 D lay ([], false) .non 0 (upd H0 D (.lst [])) := ⟨Same.new h, h, [], upd_same, Nat.le_refl _, .inl ⟨rfl, rfl, .nil⟩⟩
/-- as a whole -/
theorem CI.all (h : CI H0 D lay s b n H) : ∃ xs, H D = some (.lst xs) ∧ xs.length ≤ n ∧ StksAt [D] H lay xs s.1 := by
  obtain ⟨xs, hx, hl, ⟨_, _, h⟩ | ⟨_, ys, t, o, ss, l, cs, rfl, e, _, _, oD, tD, _, ht, ho, h, _⟩⟩ := h.ex
  · exact ⟨xs, hx, hl, h⟩
  · refine ⟨_, hx, hl, ?_⟩
    rw [e]
    exact paired_app h.less (.cons ⟨t, o, rfl, by simpa using tD, by simpa using oD, ht, ho⟩ .nil)
theorem CI.keep (h : CI H0 D lay s b n H) (k : Same H H2) : CI H0 D lay s b n H2 := by
  obtain ⟨xs, hx, hl, h2⟩ := h.ex
  refine ⟨h.same.trans k, h.new, xs, k _ _ hx, hl, ?_⟩
  rcases h2 with ⟨h1, h2, h3⟩ | ⟨h1, ys, t, o, ss, l, cs, a1, a2, a3, a4, a5, a6, a7, a8, a9, h3, a10⟩
  · exact .inl ⟨h1, h2, h3.move fun a u _ e => k a u e⟩
  · exact .inr ⟨h1, ys, t, o, ss, l, cs, a1, a2, a3, a4, a5, a6, a7, k _ _ a8, k _ _ a9, h3.move fun a u _ e => k a u e, a10⟩
/-- one more clipped to the last -/
theorem CI.clip (h : CI H0 D lay s b n H) {l : Layer} (hc : l.clip = true) (hs : s.2 = true) : ∃ o xs, b = .ref o ∧ H o = some (.lst xs) ∧ xs.length ≤ n ∧ CI H0 D lay (stStep s l) b (n + 1) (upd H o (.lst (xs ++ [.ref (lay l.id 0)]))) := by
  obtain ⟨xs, hx, hl, ⟨h1, _⟩ | ⟨h1, ys, t, o, ss, a, cs, rfl, a2, rfl, a4, a5, a6, a7, a8, a9, h3, a10⟩⟩ := h.ex
  · rw [hs] at h1; cases h1
  refine ⟨o, _, rfl, a9, by unfold refsL; rw [List.length_map]; exact a10, Same.updNew h.same a4, h.new, _, ?_, Nat.le_succ_of_le hl, .inr ⟨?_, ys, t, o, ss, a, cs ++ [l], rfl, ?_, rfl, a4, a5, a6, a7, ?_, ?_, ?_, ?_⟩⟩
  · rw [upd_ne (fun e => a5 e.symm)]; exact hx
  · unfold stStep
    rw [a2, if_pos ⟨hc, by simp⟩, if_pos hs]
  · unfold stStep
    rw [a2, if_pos ⟨hc, by simp⟩, if_pos hs]
    exact addLast_append ss a cs l
  · rw [upd_ne a7]; exact a8
  · rw [upd_same]
    unfold refsL
    rw [List.map_append]
    rfl
  · exact h3.move fun x u hx e => by
      rw [upd_ne (fun e2 => hx (by rw [e2]; exact List.mem_cons_self))]
      exact e
  · rw [List.length_append]
    exact Nat.succ_le_succ a10
/-- one more on its own -/
theorem CI.push (h : CI H0 D lay s b n H) {o t : Addr} {l : Layer} (ho : H o = none) (ht : upd H o (.lst []) t = none) : ∃ xs, (upd (upd H o (.lst [])) t (.tup [.ref (lay l.id 0), .ref o])) D = some (.lst xs) ∧ xs.length ≤ n ∧
    (∀ k, CI H0 D lay (s.1 ++ [(l, [])], k) (if k = true then .ref o else .non) (n + 1) (upd (upd (upd H o (.lst [])) t (.tup [.ref (lay l.id 0), .ref o])) D (.lst (xs ++ [.ref t])))) := by
  obtain ⟨xs, hx, hl, st⟩ := h.all
  have s1 : Same H (upd H o (.lst [])) := Same.new ho
  have s2 : Same (upd H o (.lst [])) (upd (upd H o (.lst [])) t (.tup [.ref (lay l.id 0), .ref o])) := Same.new ht
  have oD : o ≠ D := fun e => by rw [e, hx] at ho; cases ho
  have tD : t ≠ D := fun e => by have := s1 _ _ hx; rw [← e, ht] at this; cases this
  have tO : t ≠ o := fun e => by rw [e, upd_same] at ht; cases ht
  have st1 : StksAt [o, D] H lay xs s.1 := st.fresh ho
  have st2 : StksAt [t, o, D] (upd H o (.lst [])) lay xs s.1 := StksAt.fresh (st1.move fun a u _ e => s1 a u e) ht
  have st3 : StksAt [o, D] (upd (upd (upd H o (.lst [])) t (.tup [.ref (lay l.id 0), .ref o])) D (.lst (xs ++ [.ref t]))) lay xs s.1 := st2.less.move fun a u ha e => by
    rw [upd_ne (fun e2 => ha (by rw [e2]; simp))]
    exact s2 a u e
  have hT : (upd (upd (upd H o (.lst [])) t (.tup [.ref (lay l.id 0), .ref o])) D (.lst (xs ++ [.ref t]))) t = some (.tup [.ref (lay l.id 0), .ref o]) := by rw [upd_ne tD, upd_same]
  have hO : (upd (upd (upd H o (.lst [])) t (.tup [.ref (lay l.id 0), .ref o])) D (.lst (xs ++ [.ref t]))) o = some (.lst []) := by rw [upd_ne oD, upd_ne (fun e => tO e.symm), upd_same]
  refine ⟨xs, s2 _ _ (s1 _ _ hx), hl, fun k => ⟨Same.updNew ((h.same.trans s1).trans s2) h.new, h.new, _, upd_same, by rw [List.length_append]; exact Nat.succ_le_succ hl, ?_⟩⟩
  cases k with
  | false => exact .inl ⟨rfl, rfl, paired_app st3.less (.cons ⟨t, o, rfl, by simpa using tD, by simpa using oD, hT, hO⟩ .nil)⟩
  | true =>
    have hn : H0 o = none := by
      cases e : H0 o with
      | none => rfl
      | some u => have := h.same _ _ e; rw [ho] at this; cases this
    exact .inr ⟨rfl, xs, t, o, s.1, l, [], rfl, rfl, rfl, hn, oD, tD, tO, hT, hO, st3, Nat.zero_le _⟩
end
section
variable {P : Program} {w : World} {K : PySem.W.Frag} {mg : Str → Option Value} {base : Heap} {c : CAd} {eN : Addr}
def spClip (K : PySem.W.Frag) (c : CAd) : Sp := fun vs H Q _ => ∃ (A : Addr) (lay : Lay) (ls : List Layer), vs = [.ref A] ∧ SqL K H A (refsL lay ls) ∧ ls.length ≤ 12 ∧ (∀ l ∈ ls, InsAt c H l (lay l.id)) ∧
  ∀ D H' xs, Same H H' → H' D = some (.lst xs) → xs.length ≤ 12 → StksAt [] H' lay xs (Ie02.runs ls) → Q (.ref D) H'
abbrev s_with_clipped : Stmt := topS 54
abbrev N_with_clipped : List Str := ["layers", "stacks", "base", "layer", "clipped", "own"]
abbrev P_with_clipped : List Str := ["layers"]
theorem sc_with_clipped : FnScope N_with_clipped P_with_clipped (defScope s_with_clipped) := ⟨rfl, rfl, rfl, by decide +kernel, rfl, by decide +kernel, by decide +kernel⟩
theorem CI.none {H0 H : Hp} {D : Addr} {lay : Lay} {s : List (Layer × List Layer) × Bool} {b : V} {n : Nat} (h : CI H0 D lay s b n H) (z : s.2 = false) : b = .non := by
  obtain ⟨xs, hx, hl, ⟨h1, h2, _⟩ | ⟨h1, _⟩⟩ := h.ex
  · exact h2
  · rw [z] at h1; cases h1
theorem clip_els {H H2 : Hp} {D a : Addr} {lay : Lay} {s : List (Layer × List Layer) × Bool} {b : V} {i : Nat} {l : Layer} {k : Bool} {z5 : Option V} {Dn : Ends} (ci : CI H D lay s b i H2) (hi : InsAt c H l (lay l.id)) (hl : i < 12)
    (h1 : k = true → l.clip = true ∧ s.1 ≠ [] ∧ s.2 = false) (h2 : k = false → ¬ (l.clip = true ∧ s.1 ≠ [])) (q : ∀ b z3 z4 z5 H3, CI H D lay (stStep s l) b (i + 1) H3 → Dn.nx [some (.ref a), some (.ref D), some b, z3, z4, z5] H3) :
    tSeq (tAsg (tLst tNil) (gName 5))
          (tSeq
            (tDrop
              (tBM K "list" rAppend (tVar 1) (tCons (tTup (tCons (tVar 3) (tCons (tVar 5) tNil))) tNil)))
            (tIfS (tNot (tB (tVar 4)))
              (tAsg (tIf (tB (tCl (spBase c) E0 (tCons (tVar 3) tNil))) (tVar 5) (tC V.non)) (gName 2)) tNext)) Dn [some (.ref a), some (.ref D), some b, some (.ref (lay l.id 0)), some (.bl k), z5] H2 := by
  refine ⟨(by show 0 ≤ sizeLine; decide), fun o ho => ?_⟩
  obtain ⟨xs0, hx0, _⟩ := ci.ex
  have hD1 := (Same.new (o := .lst []) ho) _ _ hx0
  refine ⟨_, rfl, .inl ⟨rfl, _, .of hD1⟩, _, rfl, _, rfl, (by show 2 ≤ sizeLine; decide), fun t ht => ?_⟩
  obtain ⟨xs, hx, hlen, all⟩ := ci.push (l := l) ho ht
  refine ⟨D, xs, _, rfl, rfl, hx, Nat.lt_of_le_of_lt hlen (Nat.lt_trans hl (by decide)), ⟨_, rfl, k, rfl, ?_⟩⟩
  cases k with
  | true =>
    obtain ⟨c1, c2, c3⟩ := h1 rfl
    refine (if_neg (by simp)).mpr ?_
    have e : stStep s l = (s.1 ++ [(l, [])], false) := by
      unfold stStep
      rw [if_pos ⟨c1, c2⟩, c3, if_neg (by decide)]
    have z := q .non (some (.ref (lay l.id 0))) (some (.bl true)) (some (.ref o)) _ (by rw [e]; exact all false)
    rw [ci.none c3]
    exact z
  | false =>
    refine (if_pos (by rfl)).mpr ?_
    have e : stStep s l = (s.1 ++ [(l, [])], l.base) := by
      unfold stStep
      rw [if_neg (h2 rfl)]
    obtain ⟨dx, hi⟩ := hi
    refine ⟨_, rfl, l, lay l.id, rfl, ⟨dx, (all l.base).same _ _ hi⟩, _, rfl, ?_⟩
    have z := q (if l.base = true then .ref o else .non) (some (.ref (lay l.id 0))) (some (.bl false)) (some (.ref o)) _ (by rw [e]; exact all l.base)
    cases hb : l.base with
    | true =>
      rw [hb] at z
      exact (if_pos rfl).mpr ⟨_, rfl, z⟩
    | false =>
      rw [hb] at z
      exact (if_neg (by simp)).mpr z
theorem d_with_clipped (T : TC K mg c eN) (G_can_be_base : DefAt P w K mg base CX0 39 "can_be_base" P_can_be_base (spBase c)) (F : TopFn K mg "with_clipped" "with_clipped" s_with_clipped P_with_clipped) : DefAt P w K mg base CX0 40 "with_clipped" P_with_clipped (spClip K c) := by
  refine F.ok sc_with_clipped (fun vs H Q E h => ?_) (fun fa cdv A outer s H vs Q E hr h => ?_)
  · obtain ⟨_, _, _, rfl, _⟩ := h; rfl
  obtain ⟨a, lay, ls, rfl, ha, len, ins, q⟩ := h
  have nd := sc_with_clipped.nd
  refine ⟨_, (pss_cons (ps_set (i := 1) nd rfl (Or.inl rfl) (pe_lst pa_nil)) (pss_cons (ps_set (i := 2) nd rfl (Or.inl rfl) pe_non) (pss_cons (ps_for PassesOwn.never rfl (pi_list (pv 0)) (pg_name (i := 3) nd rfl (Or.inl rfl)) (pss_cons (ps_set (i := 4) nd rfl (Or.inl rfl) (pe_and (pe_cmpR op_eq (pfld (K := K) (pv 3) rfl) pe_int (nomark _)) (pe_one (pe_cmpR (op_neL (Nat.lt_of_succ_lt (hu_of hr))) (pv 1) (pe_lst pa_nil) (nomark _))))) (pss_one (ps_if (PW.pt (pw_and (pt_val (pv 4)) (pw_and1 (pt_cmpR op_notN (pv 2) pe_non (nomark _))))) (pss_one (ps_expr (pe_bm PySem.F.plainAttrs_list PySem.F.slot_list_append PySem.F.type_list_append mt_append (pv 2) (pa_cons (pv 3) pa_nil)))) (pss_cons (ps_set (i := 5) nd rfl (Or.inl rfl) (pe_lst pa_nil)) (pss_cons (ps_expr (pe_bm PySem.F.plainAttrs_list PySem.F.slot_list_append PySem.F.type_list_append mt_append (pv 1) (pa_cons (pe_tup (pa_cons (pv 3) (pa_cons (pv 5) pa_nil))) pa_nil))) (pss_one (ps_if (pt_not (pt_val (pv 4))) (pss_one (ps_set (i := 2) nd rfl (Or.inl rfl) (pe_ifExp (pt_val (pc G_can_be_base (hr.mono (by omega)) pass0 (pa_cons (pv 3) pa_nil))) (pv 5) pe_non))) pss_nil)))))))) (pss_one (ps_ret (pv 1)))))), ?_⟩
  refine ⟨(by show 0 ≤ sizeLine; decide), fun D hD => ?_⟩
  refine ⟨_, rfl, a, rfl, ⟨_, Same.seq (Same.new hD) ha⟩, ?_⟩
  refine for_list (K := K) (a := a) (xs := refsL lay ls) (fun i σ H' => ∃ b z3 z4 z5, CI H D lay ((ls.take i).foldl stStep ([], false)) b i H' ∧ σ = [some (.ref a), some (.ref D), some b, z3, z4, z5]) ⟨.non, none, none, none, .start hD, rfl⟩ (fun i σ H' _ ⟨_, _, _, _, ci, _⟩ => Same.seq ci.same ha) ?_ ?_
  · rintro i x σ H' hx ⟨b, z3, z4, z5, ci, rfl⟩
    obtain ⟨l, hl, rfl⟩ : ∃ l, ls[i]? = some l ∧ x = .ref (lay l.id 0) := by
      unfold refsL at hx
      rw [List.getElem?_map] at hx
      cases e : ls[i]? with
      | none => rw [e] at hx; cases hx
      | some l => rw [e] at hx; exact ⟨l, rfl, (Option.some.inj hx).symm⟩
    have ilt : i < ls.length := (List.getElem?_eq_some_iff.mp hl).1
    obtain ⟨dx, hi⟩ := ins l (List.mem_of_getElem? hl)
    have st : (ls.take (i + 1)).foldl stStep ([], false) = stStep ((ls.take i).foldl stStep ([], false)) l := by rw [take_more hl, List.foldl_append]; rfl
    rw [st]
    generalize (ls.take i).foldl stStep ([], false) = s at ci
    have hi2 := ci.same _ _ hi
    refine ⟨_, rfl, _, _, _, _, _, rfl, hi2, T.cO _, T.nO _ _ (inBase (by decide) _), rfl, rfl, _, rfl, ?_⟩
    have nxt : ∀ b z3 z4 z5 H3, CI H D lay (stStep s l) b (i + 1) H3 → ∃ b' z3' z4' z5', CI H D lay (stStep s l) b' (i + 1) H3 ∧ [some (V.ref a), some (.ref D), some b, z3, z4, z5] = [some (V.ref a), some (.ref D), some b', z3', z4', z5'] := fun b z3 z4 z5 H3 h => ⟨b, z3, z4, z5, h, rfl⟩
    have i12 : i < 12 := Nat.lt_of_lt_of_le ilt len
    cases hc : l.clip with
    | false =>
      refine (if_neg (by simp)).mpr ⟨_, rfl, _, rfl, (if_neg (by simp)).mpr ?_⟩
      refine (if_neg (by simp)).mpr ?_
      exact clip_els ci ⟨dx, hi⟩ i12 (fun z => by cases z) (fun _ z => by rw [hc] at z; cases z.1) nxt
    | true =>
      refine (if_pos (by rfl)).mpr ⟨_, rfl, (by show 0 ≤ sizeLine; decide), fun p0 hp0 => ?_⟩
      have ci2 := ci.keep (Same.new (o := .lst []) hp0)
      obtain ⟨xs, hx, _, st1⟩ := ci2.all
      refine ⟨D, p0, xs, rfl, rfl, .of hx, .of upd_same, ?_⟩
      have en : xs = [] ↔ s.1 = [] := by
        constructor
        · rintro rfl
          cases hs : s.1 with
          | nil => rfl
          | cons y r => rw [hs] at st1; cases st1
        · intro e
          rw [e] at st1
          cases st1
          rfl
      by_cases e : xs = []
      · rw [show decide (xs ≠ []) = false by simpa using e]
        refine ⟨_, rfl, _, rfl, (if_neg (by simp)).mpr ?_⟩
        refine (if_neg (by simp)).mpr ?_
        exact clip_els ci2 ⟨dx, hi⟩ i12 (fun z => by cases z) (fun _ z => z.2 (en.mp e)) nxt
      · rw [show decide (xs ≠ []) = true by simpa using e]
        have ne : s.1 ≠ [] := fun z => e (en.mpr z)
        refine ⟨_, rfl, _, rfl, (if_pos (by rfl)).mpr ⟨_, rfl, rfl, _, rfl, ?_⟩⟩
        cases hs : s.2 with
        | false =>
          have e2 := ci.none hs
          subst e2
          refine (if_neg (by simp)).mpr ?_
          exact clip_els ci2 ⟨dx, hi⟩ i12 (fun _ => ⟨hc, ne, hs⟩) (fun z => by cases z) nxt
        | true =>
          obtain ⟨o, ys, rfl, ho, hl2, ci3⟩ := ci2.clip hc hs
          refine (if_pos (by rfl)).mpr ?_
          refine ⟨_, rfl, .inl ⟨rfl, _, .of ho⟩, _, rfl, o, ys, _, rfl, rfl, ho, Nat.lt_of_le_of_lt hl2 (Nat.lt_trans i12 (by decide)), ?_⟩
          exact nxt _ _ _ _ _ ci3
  · rintro σ H' ⟨b, z3, z4, z5, ci, rfl⟩
    obtain ⟨xs, hx, hl, st⟩ := ci.all
    have e0 : (refsL lay ls).length = ls.length := by unfold refsL; rw [List.length_map]
    rw [e0, List.take_length, runs_eq] at st
    rw [e0] at hl
    exact ⟨_, rfl, q D H' xs ci.same hx (Nat.le_trans hl len) st.less⟩
end
end LH

set_option Elab.async false
set_option linter.all false
set_option maxRecDepth 100000
set_option maxHeartbeats 4000000
namespace LH
open PySem PySem.Spec PyProof.Rows L2
open Ie02 (Frac Px Colour Doc Layer)
open LM
/-! numbers of layers, sizes -/
theorem siz_take {d : Doc} {k j : Nat} {cs : List Layer} {x : Layer} (h : cs[j]? = some x) : siz d k (cs.take (j + 1)) = siz d k (cs.take j) + (1 + cnt d k x.id) ∧ siz d k (cs.take j) + (1 + cnt d k x.id) ≤ siz d k cs := by
  have e : siz d k (cs.take (j + 1)) = siz d k (cs.take j) + (1 + cnt d k x.id) := by
    rw [take_more h, siz_append]
    rfl
  refine ⟨e, ?_⟩
  rw [← e]
  conv => rhs; rw [← List.take_append_drop (j + 1) cs]
  rw [siz_append]
  omega
theorem exp_le {N e : Nat} (h : N * 3 ^ e ≤ 120 * 3 ^ 12) (hN : 120 ≤ N) : e ≤ 12 := by
  have h1 : 120 * 3 ^ e ≤ 120 * 3 ^ 12 := Nat.le_trans (Nat.mul_le_mul_right _ hN) h
  exact (Nat.pow_le_pow_iff_right (by decide)).mp (Nat.le_of_mul_le_mul_left h1 (by decide))
theorem pow11 {m : Nat} (h : m ≤ 11) : 120 * 3 ^ m ≤ 21258000 := Nat.le_trans (Nat.mul_le_mul_left 120 (Nat.pow_le_pow_right (by decide) h)) (by decide)
theorem ge120 (m : Nat) : 120 ≤ 120 * 3 ^ m := by have := p3 m; omega
/-- a whole document, to be read -/
structure DocS (K : PySem.W.Frag) (c : CAd) (H : Hp) (d : Doc) (lay : Lay) : Prop where
  i : DocI c H d lay
  m : DocM H d lay
  k : DocK H d lay
  p : DocP K H d lay
theorem DocS.mono {K : PySem.W.Frag} {c : CAd} {H H' : Hp} {d : Doc} {lay : Lay} (h : DocS K c H d lay) (s : Same H H') : DocS K c H' d lay := ⟨h.i.mono s, h.m.mono s, h.k.mono s, h.p.mono s⟩
/-- where one composites -/
structure At (K : PySem.W.Frag) (c : CAd) (H : Hp) (d : Doc) (lay : Lay) (f : Nat → Nat) (i : Nat) : Prop where
  s : DocS K c H d lay
  w : WF d
  l : Lev d f
  hi : i < d.w * d.h
theorem At.mono {K : PySem.W.Frag} {c : CAd} {H H' : Hp} {d : Doc} {lay : Lay} {f : Nat → Nat} {i : Nat} (h : At K c H d lay f i) (s : Same H H') : At K c H' d lay f i := ⟨h.s.mono s, h.w, h.l, h.hi⟩
def isChange (k : LKind) : Bool := match k with
  | .change _ => true
  | _ => false
def spComp (K : PySem.W.Frag) (c : CAd) (r : Nat) : Sp := fun vs H Q _ => ∃ (d : Doc) (lay : Lay) (f : Nat → Nat) (p i k : Nat) (v : V) (px : Px) (N : Nat), vs = [.ref (lay 0 0), .ref (lay p 2), .int (i : Int), v] ∧ At K c H d lay f i ∧ Par d p ∧ 5 ≤ r + f p ∧ 5 ≤ k + f p ∧
  PAt K H v px ∧ Pot px N ∧ N * 3 ^ cnt d k p ≤ 120 * 3 ^ 12 ∧ ∀ z H', Same H H' → PAt K H' z (d.paint k p i px) → Q z H'
def spOwn (K : PySem.W.Frag) (c : CAd) (r : Nat) : Sp := fun vs H Q _ => ∃ (d : Doc) (lay : Lay) (f : Nat → Nat) (l : Layer) (i k : Nat), vs = [.ref (lay 0 0), .ref (lay l.id 0), .int (i : Int)] ∧ At K c H d lay f i ∧ l ∈ d.layers ∧ isChange l.kind = false ∧ 5 ≤ r + f l.id ∧ 5 ≤ k + f l.id ∧
  120 * 3 ^ cnt d k l.id ≤ 120 * 3 ^ 12 ∧ ∀ z H', Same H H' → PAt K H' z (ownS d k i l) → Q z H'
def spLay (K : PySem.W.Frag) (c : CAd) (r : Nat) : Sp := fun vs H Q _ => ∃ (d : Doc) (lay : Lay) (f : Nat → Nat) (l : Layer) (cs : List Layer) (L : Addr) (i k : Nat) (v : V) (px : Px) (N : Nat), vs = [.ref (lay 0 0), .ref (lay l.id 0), .ref L, .int (i : Int), v] ∧ At K c H d lay f i ∧ l ∈ d.layers ∧
  SqL K H L (refsL lay cs) ∧ (∀ x ∈ cs, x ∈ d.layers ∧ f x.id = f l.id) ∧ 5 ≤ r + f l.id ∧ 5 ≤ k + f l.id ∧ l.shown = true ∧ PAt K H v px ∧ Pot px N ∧ N * 3 ^ siz d k (l :: cs) ≤ 120 * 3 ^ 12 ∧ ∀ z H', Same H H' → PAt K H' z (layS d k i px (l, cs)) → Q z H'
section
variable {P : Program} {w : World} {K : PySem.W.Frag} {mg : Str → Option Value} {base : Heap} {c : CAd} {eN : Addr}
abbrev s_own_pixel : Stmt := topS 55
abbrev N_own_pixel : List Str := ["document", "layer", "place"]
abbrev P_own_pixel : List Str := ["document", "layer", "place"]
theorem sc_own_pixel : FnScope N_own_pixel P_own_pixel (defScope s_own_pixel) := ⟨rfl, rfl, rfl, by decide +kernel, rfl, by decide +kernel, by decide +kernel⟩
abbrev s_composite : Stmt := topS 57
abbrev N_composite : List Str := ["document", "members", "place", "backdrop", "result", "layer", "clipped", "number"]
abbrev P_composite : List Str := ["document", "members", "place", "backdrop"]
theorem sc_composite : FnScope N_composite P_composite (defScope s_composite) := ⟨rfl, rfl, rfl, by decide +kernel, rfl, by decide +kernel, by decide +kernel⟩
theorem d_own_pixel (T : TC K mg c eN) (r : Nat) {kc : Nat} (hkc : 40 ≤ kc) (G_composite : DefAt P w K mg base CX0 kc "composite" P_composite (spComp K c r)) (G_pixel_of_bytes : DefAt P w K mg base CX0 40 "pixel_of_bytes" P_pixel_of_bytes (spPixB K)) (G_nothing : DefAt P w K mg base CX0 38 "nothing" P_nothing (spNothing K))
    (F : TopFn K mg "own_pixel" "own_pixel" s_own_pixel P_own_pixel) : DefAt P w K mg base CX0 (kc + 1) "own_pixel" P_own_pixel (spOwn K c r) := by
  refine F.ok sc_own_pixel (fun vs H Q E h => ?_) (fun fa cdv A outer s H vs Q E hr h => ?_)
  · obtain ⟨_, _, _, _, _, _, rfl, _⟩ := h; rfl
  obtain ⟨d, lay, f, l, i, k, rfl, X, hl, nc, hr5, hk5, fit, q⟩ := h
  have nd := sc_own_pixel.nd
  refine ⟨_, (pss_cons (ps_if (pt_val (pe_callB call_isi (by rfl) T.n_isinstance (by decide +kernel) (pa_cons (pv 1) (pa_cons (pe_glob (v := .ref _) rfl T.c_RasterLayer rfl) pa_nil)))) (pss_one (ps_ret (pc G_pixel_of_bytes (hr.mono (by omega)) pass0 (pa_cons (pe_ix (r := rIxL K) ix_list (pfld (K := K) (pv 1) rfl) (pv 2) (fun _ _ => rfl)) pa_nil)))) pss_nil) (pss_one (ps_ret (pc G_composite (hr.mono (by omega)) pass0 (pa_cons (pv 0) (pa_cons (pfld (K := K) (pv 1) rfl) (pa_cons (pv 2) (pa_cons (pc0 G_nothing (hr.mono (by omega)) pass0) pa_nil)))))))), ?_⟩
  obtain ⟨dl, hi⟩ := X.s.i.ins l hl
  refine ⟨_, rfl, _, _, _, _, _, rfl, .own _, T.ty hi, T.isR _, _, rfl, ?_⟩
  unfold ownS at q
  cases hk : l.kind with
  | change h => rw [hk] at nc; cases nc
  | picture =>
    rw [hk] at q
    refine (if_pos (by simp)).mpr ?_
    have hi2 := insK hi hk
    obtain ⟨xs, hx, cells⟩ := X.s.p l hl hk
    have lo := X.w.ok l hl
    have ix : i < l.cells.length := by rw [lo.clen]; exact X.hi
    obtain ⟨v, hv⟩ : ∃ v, xs[i]? = some v := ⟨xs[i]'(by rw [cells.length]; exact ix), List.getElem?_eq_getElem _⟩
    obtain ⟨y, hy, a, rfl, hs⟩ := Paired.at cells hv
    refine ⟨_, rfl, _, _, _, _, _, rfl, hi2, T.cO (.picture), T.nO (.picture) _ (show _ ∈ namesR by decide), rfl, _, rfl, lay l.id 2, _, _, _, rfl, rfl, .of hx, atI_nat hv, a, normQ y, rfl, hs, fun z H' s' hz => q z H' s' ?_⟩
    rw [byte_norm l i y hy] at hz
    exact hz
  | group t =>
    rw [hk] at q
    refine (if_neg (by simp)).mpr ?_
    have hi2 := insK hi hk
    refine ⟨_, rfl, _, rfl, _, _, _, _, _, rfl, hi2, T.cO (.group t), T.nO (.group t) _ (show _ ∈ namesG by decide), rfl, _, rfl, rfl, fun z H1 s1 hz => ?_⟩
    exact ⟨d, lay, f, l.id, i, k, z, Ie02.nothing, 120, rfl, X.mono s1, .inr ⟨l, hl, rfl, by rw [hk]; rfl⟩, hr5, hk5, hz, pot_nothing (Nat.le_refl _), fit, fun z2 H2 s2 hz2 => q z2 H2 (s1.trans s2) hz2⟩
end
end LH

set_option Elab.async false
set_option linter.all false
set_option maxRecDepth 100000
set_option maxHeartbeats 4000000
namespace LH
open PySem PySem.Spec PyProof.Rows L2
open Ie02 (Frac Px Colour Doc Layer)
open LM
section
variable {P : Program} {w : World} {K : PySem.W.Frag} {mg : Str → Option Value} {base : Heap} {c : CAd} {eN : Addr}
theorem At.ins {H : Hp} {d : Doc} {lay : Lay} {f : Nat → Nat} {i : Nat} (X : At K c H d lay f i) {l : Layer} (hl : l ∈ d.layers) : InsAt c H l (lay l.id) := X.s.i.ins l hl
theorem shown_eq (b : Bool) : decide (V.int (b.toNat : Int) = V.int 1) = b := by cases b <;> decide
abbrev s_with_layer : Stmt := topS 56
abbrev N_with_layer : List Str := ["document", "layer", "clipped", "place", "backdrop", "weight", "own", "upper", "laid"]
abbrev P_with_layer : List Str := ["document", "layer", "clipped", "place", "backdrop"]
theorem sc_with_layer : FnScope N_with_layer P_with_layer (defScope s_with_layer) := ⟨rfl, rfl, rfl, by decide +kernel, rfl, by decide +kernel, by decide +kernel⟩
theorem d_with_layer (T : TC K mg c eN) (r : Nat) {kc : Nat} (hkc : 43 ≤ kc) (G_composite : DefAt P w K mg base CX0 kc "composite" P_composite (spComp K c r)) (G_own_pixel : DefAt P w K mg base CX0 (kc + 1) "own_pixel" P_own_pixel (spOwn K c r))
    (G_weight_at : DefAt P w K mg base CX0 38 "weight_at" P_weight_at (spWeight K c)) (G_is_pass_through : DefAt P w K mg base CX0 38 "is_pass_through" P_is_pass_through (spThru c))
    (G_over : DefAt P w K mg base CX0 43 "over" P_over (spOver K)) (G_atop : DefAt P w K mg base CX0 43 "atop" P_atop (spAtop K)) (G_mix : DefAt P w K mg base CX0 43 "mix" P_mix (spMix K)) (G_adjusted : DefAt P w K mg base CX0 43 "adjusted" P_adjusted (spAdj K))
    (F : TopFn K mg "with_layer" "with_layer" s_with_layer P_with_layer) : DefAt P w K mg base CX0 (kc + 2) "with_layer" P_with_layer (spLay K c r) := by
  refine F.ok sc_with_layer (fun vs H Q E h => ?_) (fun fa cdv A outer s H vs Q E hr h => ?_)
  · obtain ⟨_, _, _, _, _, _, _, _, _, _, _, rfl, _⟩ := h; rfl
  obtain ⟨d, lay, f, l, cs, L, i, k, v, px, N, rfl, X, hl, hL, hcs, hr5, hk5, sh, hv, hN, fit, q⟩ := h
  have nd := sc_with_layer.nd
  refine ⟨_, (pss_cons (ps_set (i := 5) nd rfl (Or.inl rfl) (pc G_weight_at (hr.mono (by omega)) pass0 (pa_cons (pv 1) (pa_cons (pv 3) pa_nil)))) (pss_cons (ps_if (pt_val (pe_callB call_isi (by rfl) T.n_isinstance (by decide +kernel) (pa_cons (pv 1) (pa_cons (pe_glob (v := .ref _) rfl T.c_AdjustmentLayer rfl) pa_nil)))) (pss_one (ps_ret (pc G_atop (hr.mono (by omega)) pass0 (pa_cons (pfld (K := K) (pv 1) rfl) (pa_cons (pv 5) (pa_cons (pv 4) (pa_cons (pc G_adjusted (hr.mono (by omega)) pass0 (pa_cons (pfld (K := K) (pv 1) rfl) (pa_cons (pv 4) pa_nil))) pa_nil))))))) pss_nil) (pss_cons (ps_if (pt_val (pc G_is_pass_through (hr.mono (by omega)) pass0 (pa_cons (pv 1) pa_nil))) (pss_one (ps_ret (pc G_mix (hr.mono (by omega)) pass0 (pa_cons (pv 5) (pa_cons (pv 4) (pa_cons (pc G_composite (hr.mono (by omega)) pass0 (pa_cons (pv 0) (pa_cons (pfld (K := K) (pv 1) rfl) (pa_cons (pv 3) (pa_cons (pv 4) pa_nil))))) pa_nil)))))) pss_nil) (pss_cons (ps_set (i := 6) nd rfl (Or.inl rfl) (pc G_own_pixel (hr.mono (by omega)) pass0 (pa_cons (pv 0) (pa_cons (pv 1) (pa_cons (pv 3) pa_nil))))) (pss_cons (ps_for PassesOwn.never rfl (pi_list (pv 2)) (pg_name (i := 7) nd rfl (Or.inl rfl)) (pss_one (ps_if (pt_cmpR op_eq (pfld (K := K) (pv 7) rfl) pe_int (nomark _)) (pss_cons (ps_if (pt_val (pe_callB call_isi (by rfl) T.n_isinstance (by decide +kernel) (pa_cons (pv 7) (pa_cons (pe_glob (v := .ref _) rfl T.c_AdjustmentLayer rfl) pa_nil)))) (pss_one (ps_set (i := 8) nd rfl (Or.inl rfl) (pc G_adjusted (hr.mono (by omega)) pass0 (pa_cons (pfld (K := K) (pv 7) rfl) (pa_cons (pv 6) pa_nil))))) (pss_one (ps_set (i := 8) nd rfl (Or.inl rfl) (pc G_own_pixel (hr.mono (by omega)) pass0 (pa_cons (pv 0) (pa_cons (pv 7) (pa_cons (pv 3) pa_nil))))))) (pss_one (ps_set (i := 6) nd rfl (Or.inl rfl) (pc G_atop (hr.mono (by omega)) pass0 (pa_cons (pfld (K := K) (pv 7) rfl) (pa_cons (pc G_weight_at (hr.mono (by omega)) pass0 (pa_cons (pv 7) (pa_cons (pv 3) pa_nil))) (pa_cons (pv 6) (pa_cons (pv 8) pa_nil)))))))) pss_nil))) (pss_one (ps_ret (pc G_over (hr.mono (by omega)) pass0 (pa_cons (pfld (K := K) (pv 1) rfl) (pa_cons (pv 5) (pa_cons (pv 4) (pa_cons (pv 6) pa_nil)))))))))))), ?_⟩
  have lo := X.w.ok l hl
  obtain ⟨_, _, _, _, uw, lw⟩ := weight_ok lo X.hi
  have ok := X.w.ok
  have pp := paint_pot ok X.hi k
  have e12 := exp_le fit hN.le
  have e12b := e12
  rw [siz_cons] at e12b
  have Nle : N ≤ 21258000 := fit_before (m := siz d k (l :: cs) - 1) (by rw [show 1 + (siz d k (l :: cs) - 1) = siz d k (l :: cs) by rw [siz_cons]; omega]; exact fit)
  refine ⟨_, rfl, _, rfl, l, lay l.id, i, _, rfl, X.ins hl, X.s.k l hl, lo, X.hi, fun z1 H1 s1 hz1 => ?_⟩
  have X1 := X.mono s1
  obtain ⟨dl, hi⟩ := X1.ins hl
  refine ⟨_, rfl, _, _, _, _, _, rfl, .own _, T.ty hi, T.isA _, _, rfl, ?_⟩
  unfold layS at q
  dsimp only at q
  rw [sh] at q
  have q := q
  rw [if_neg (by decide)] at q
  have low := hN.lim Nle
  by_cases ca : isChange l.kind = true
  · obtain ⟨how, hk⟩ : ∃ how, l.kind = .change how := by
      cases e : l.kind with
      | picture => rw [e] at ca; cases ca
      | group t => rw [e] at ca; cases ca
      | change how => exact ⟨how, rfl⟩
    rw [hk] at q
    have q : ∀ z H', Same H H' → PAt K H' z (Ie02.atop l.mode (l.weight i) px ⟨Ie02.changed how px.c, Ie02.one⟩) → Q z H' := q
    rw [adj_eq _ _ uw hN.up] at q
    have hi2 := insK hi hk
    refine (if_pos ca).mpr ?_
    refine ⟨_, rfl, _, _, _, _, _, rfl, hi, T.cO _, T.nO _ _ (inBase (by decide) _), rfl, _, rfl, _, rfl, _, rfl, _, _, _, _, _, rfl, hi2, T.cO (.change how), T.nO (.change how) _ (show _ ∈ namesA by decide), rfl, _, rfl, how, v, px, rfl, hv.mono s1, low, fun z2 H2 s2 hz2 => ?_⟩
    have hv2 := hv.mono (s1.trans s2)
    exact ⟨l.mode, z1, v, z2, l.weight i, px, ⟨changedP how px.c, Ie02.one⟩, rfl, lo.mode, hz1.mono s2, ⟨uw, lw⟩, hv2, hz2, low, adj_lim how low, fun z3 H3 s3 hz3 => q z3 H3 ((s1.trans s2).trans s3) hz3⟩
  have na : isChange l.kind = false := by simpa using ca
  refine (if_neg ca).mpr ?_
  refine ⟨_, rfl, l, lay l.id, rfl, ⟨dl, hi⟩, _, rfl, ?_⟩
  by_cases ct : passB l.kind = true
  · have hk : l.kind = .group true := by
      cases e : l.kind with
      | picture => rw [e] at ct; cases ct
      | change h => rw [e] at ct; cases ct
      | group t =>
        rw [e] at ct
        have : t = true := ct
        rw [this]
    rw [hk] at q
    have q : ∀ z H', Same H H' → PAt K H' z (Ie02.part (l.weight i) px (d.paint k l.id i px)) → Q z H' := q
    have pr := pp l.id N px hN
    rw [← (mix_vals uw hN.up pr.up).2] at q
    have hi2 := insK hi hk
    have fit2 : N * 3 ^ cnt d k l.id ≤ 120 * 3 ^ 12 := Nat.le_trans (Nat.mul_le_mul_left _ (Nat.pow_le_pow_right (by decide) (by rw [siz_cons]; omega))) fit
    have prle : N * 3 ^ cnt d k l.id ≤ 21258000 := fit_before (m := siz d k cs) (by rw [Nat.mul_assoc, ← Nat.pow_add, show cnt d k l.id + (1 + siz d k cs) = siz d k (l :: cs) by rw [siz_cons]; omega]; exact fit)
    refine (if_pos ct).mpr ?_
    refine ⟨_, rfl, _, rfl, _, rfl, _, rfl, _, _, _, _, _, rfl, hi2, T.cO (.group true), T.nO (.group true) _ (show _ ∈ namesG by decide), rfl, _, rfl, _, rfl, d, lay, f, l.id, i, k, v, px, N, rfl, X1, .inr ⟨l, hl, rfl, by rw [hk]; rfl⟩, hr5, hk5, hv.mono s1, hN, fit2, fun z2 H2 s2 hz2 => ?_⟩
    exact ⟨z1, v, z2, l.weight i, px, d.paint k l.id i px, rfl, hz1.mono s2, ⟨uw, lw⟩, hv.mono (s1.trans s2), hz2, low, pr.lim prle, fun z3 H3 s3 hz3 => q z3 H3 ((s1.trans s2).trans s3) hz3⟩
  refine (if_neg ct).mpr ?_
  have q : ∀ z H', Same H H' → PAt K H' z (Ie02.over l.mode (l.weight i) px (cs.foldl (ontoS d k i) (ownS d k i l))) → Q z H' := by
    cases hk : l.kind with
    | change h => rw [hk] at na; cases na
    | picture => rw [hk] at q; exact q
    | group t =>
      rw [hk] at q ct
      cases t with
      | true => exact absurd rfl ct
      | false => exact q
  have po := own_pot ok X.hi pp hl
  have po2 := po.potP (p3 _)
  have fit1 : 120 * 3 ^ cnt d k l.id ≤ 120 * 3 ^ 12 := Nat.mul_le_mul_left _ (Nat.pow_le_pow_right (by decide) (by omega))
  refine ⟨_, rfl, _, rfl, _, rfl, d, lay, f, l, i, k, rfl, X1, hl, na, hr5, hk5, fit1, fun z2 H2 s2 hz2 => ?_⟩
  have s02 := s1.trans s2
  refine ⟨_, rfl, L, rfl, ⟨_, Same.seq s02 hL⟩, ?_⟩
  have pot : ∀ j, PotP ((cs.take j).foldl (ontoS d k i) (ownS d k i l)) (120 * 3 ^ (cnt d k l.id + siz d k (cs.take j))) := fun j => by
    rw [Nat.pow_add, ← Nat.mul_assoc]
    exact ontos_pot ok X.hi pp _ po2 (ge120 _) fun x hx => (hcs x (List.mem_of_mem_take hx)).1
  refine for_list (K := K) (a := L) (xs := refsL lay cs) (fun j σ H' => ∃ z x7 x8, Same H2 H' ∧ PAt K H' z ((cs.take j).foldl (ontoS d k i) (ownS d k i l)) ∧ σ = [some (.ref (lay 0 0)), some (.ref (lay l.id 0)), some (.ref L), some (.int (i : Int)), some v, some z1, some z, x7, x8])
    ⟨z2, none, none, Same.refl _, hz2, rfl⟩ (fun j σ H' _ ⟨_, _, _, sm, _, _⟩ => Same.seq (s02.trans sm) hL) ?_ ?_
  · rintro j x σ H' hx ⟨z, x7, x8, sm, hz, rfl⟩
    obtain ⟨u, hu, rfl⟩ : ∃ u, cs[j]? = some u ∧ x = .ref (lay u.id 0) := by
      unfold refsL at hx
      rw [List.getElem?_map] at hx
      cases e : cs[j]? with
      | none => rw [e] at hx; cases hx
      | some u => rw [e] at hx; exact ⟨u, rfl, (Option.some.inj hx).symm⟩
    obtain ⟨hul, fu⟩ := hcs u (List.mem_of_getElem? hu)
    have Xj := X.mono (s02.trans sm)
    obtain ⟨du, iu⟩ := Xj.ins hul
    have uo := ok u hul
    obtain ⟨_, _, _, _, uuw, ulw⟩ := weight_ok uo X.hi
    obtain ⟨sz1, sz2⟩ := siz_take (d := d) (k := k) hu
    have pj := pot j
    have pjl := pj.lim (pow11 (by omega))
    rw [take_more hu, List.foldl_append]
    generalize (cs.take j).foldl (ontoS d k i) (ownS d k i l) = pv at hz pj pjl
    show gName 7 _ _ _ _
    have eo : [u].foldl (ontoS d k i) pv = ontoS d k i pv u := rfl
    rw [eo]
    refine ⟨_, rfl, _, _, _, _, _, rfl, iu, T.cO _, T.nO _ _ (inBase (by decide) _), rfl, rfl, _, rfl, ?_⟩
    cases hs : u.shown with
    | false =>
      refine (if_neg (by simp)).mpr ?_
      refine ⟨z, some (.ref (lay u.id 0)), x8, sm, ?_, rfl⟩
      unfold ontoS
      rw [hs, if_pos rfl]
      exact hz
    | true =>
      refine (if_pos (by rfl)).mpr ?_
      refine ⟨_, rfl, _, _, _, _, _, rfl, .own _, T.ty iu, T.isA _, _, rfl, ?_⟩
      by_cases cu : isChange u.kind = true
      · obtain ⟨how, hk⟩ : ∃ how, u.kind = .change how := by
          cases e : u.kind with
          | picture => rw [e] at cu; cases cu
          | group t => rw [e] at cu; cases cu
          | change how => exact ⟨how, rfl⟩
        have iu2 := insK iu hk
        have e : ontoS d k i pv u = atopP u.mode (u.weight i) pv ⟨changedP how pv.c, Ie02.one⟩ := by
          rw [← adj_eq _ _ uuw pj.up]
          unfold ontoS
          rw [hs, hk]
          rfl
        rw [e]
        refine (if_pos cu).mpr ?_
        refine ⟨_, rfl, _, _, _, _, _, rfl, iu2, T.cO (.change how), T.nO (.change how) _ (show _ ∈ namesA by decide), rfl, _, rfl, how, z, pv, rfl, hz, pjl, fun z3 H3 s3 hz3 => ?_⟩
        have iu3 := s3 _ _ iu
        refine ⟨_, rfl, _, _, _, _, _, rfl, iu3, T.cO _, T.nO _ _ (inBase (by decide) _), rfl, _, rfl, _, rfl, u, lay u.id, i, _, rfl, ⟨_, iu3⟩, s3 _ _ (Xj.s.k u hul), uo, X.hi, fun z4 H4 s4 hz4 => ?_⟩
        refine ⟨_, rfl, _, rfl, u.mode, z4, z, z3, u.weight i, pv, ⟨changedP how pv.c, Ie02.one⟩, rfl, uo.mode, hz4, ⟨uuw, ulw⟩, hz.mono (s3.trans s4), hz3.mono s4, pjl, adj_lim how pjl, fun z5 H5 s5 hz5 => ?_⟩
        exact ⟨z5, _, _, ((sm.trans s3).trans s4).trans s5, hz5, rfl⟩
      · have nu : isChange u.kind = false := by simpa using cu
        have ou := own_pot ok X.hi pp hul
        have e : ontoS d k i pv u = atopP u.mode (u.weight i) pv (ownS d k i u) := by
          rw [(atop_vals _ uuw pj.up ou.up).2]
          unfold ontoS
          rw [hs, if_neg (by decide)]
          cases hk : u.kind with
          | change h => rw [hk] at nu; cases nu
          | picture => rfl
          | group t => rfl
        rw [e]
        refine (if_neg cu).mpr ?_
        have fitu : 120 * 3 ^ cnt d k u.id ≤ 120 * 3 ^ 12 := Nat.mul_le_mul_left _ (Nat.pow_le_pow_right (by decide) (by omega))
        refine ⟨_, rfl, _, rfl, _, rfl, d, lay, f, u, i, k, rfl, Xj, hul, nu, by rw [fu]; exact hr5, by rw [fu]; exact hk5, fitu, fun z3 H3 s3 hz3 => ?_⟩
        have iu3 := s3 _ _ iu
        refine ⟨_, rfl, _, _, _, _, _, rfl, iu3, T.cO _, T.nO _ _ (inBase (by decide) _), rfl, _, rfl, _, rfl, u, lay u.id, i, _, rfl, ⟨_, iu3⟩, s3 _ _ (Xj.s.k u hul), uo, X.hi, fun z4 H4 s4 hz4 => ?_⟩
        have ul := ou.limU (pow11 (by omega))
        have ul4 : Lim (ownS d k i u) (NU + 4) := ⟨ul.up, Nat.le_trans ul.r (pw_mono (by omega)), Nat.le_trans ul.g (pw_mono (by omega)), Nat.le_trans ul.b (pw_mono (by omega)), ul.a⟩
        refine ⟨_, rfl, _, rfl, u.mode, z4, z, z3, u.weight i, pv, ownS d k i u, rfl, uo.mode, hz4, ⟨uuw, ulw⟩, hz.mono (s3.trans s4), hz3.mono s4, pjl, ul4, fun z5 H5 s5 hz5 => ?_⟩
        exact ⟨z5, _, _, ((sm.trans s3).trans s4).trans s5, hz5, rfl⟩
  · rintro σ H' ⟨z, x7, x8, sm, hz, rfl⟩
    have e0 : (refsL lay cs).length = cs.length := by unfold refsL; rw [List.length_map]
    have pj := pot cs.length
    rw [e0] at hz
    rw [List.take_length] at hz pj
    obtain ⟨di, ii⟩ := (X.mono (s02.trans sm)).ins hl
    refine ⟨_, rfl, _, _, _, _, _, rfl, ii, T.cO _, T.nO _ _ (inBase (by decide) _), rfl, _, rfl, _, rfl, _, rfl, l.mode, z1, v, z, l.weight i, px, _, rfl, lo.mode, hz1.mono (s2.trans sm), ⟨uw, lw⟩, hv.mono (s02.trans sm), hz, low, (pj.lim (pow11 (by omega))).limU, fun z3 H3 s3 hz3 => q z3 H3 ((s02.trans sm).trans s3) ?_⟩
    rw [← (over_vals _ uw hN.up pj.up).2]
    exact hz3
end
end LH

set_option Elab.async false
set_option linter.all false
set_option maxRecDepth 100000
set_option maxHeartbeats 4000000
namespace LH
open PySem PySem.Spec PyProof.Rows L2
open Ie02 (Frac Px Colour Doc Layer)
open LM
/-- values so far -/
structure AccV (H1 : Hp) (D : Addr) (vs : List V) (H : Hp) : Prop where
  same : Same H1 H
  new : H1 D = none
  at_ : H D = some (.lst vs)
theorem AccV.start {H1 : Hp} {D : Addr} (n : H1 D = none) : AccV H1 D [] (upd H1 D (.lst [])) := ⟨Same.new n, n, upd_same⟩
theorem AccV.step {H1 H H4 : Hp} {D : Addr} {vs : List V} {v : V} (A : AccV H1 D vs H) (s : Same H H4) (hl : vs.length < 1000) : ∃ acc, H4 D = some (.lst acc) ∧ acc.length < sizeLine ∧ AccV H1 D (vs ++ [v]) (upd H4 D (.lst (acc ++ [v]))) :=
  ⟨vs, s D _ A.at_, Nat.lt_trans hl (by decide), Same.updNew (A.same.trans s) A.new, A.new, upd_same⟩
theorem siz_flat {d : Doc} {k j : Nat} {rs : List (Layer × List Layer)} {x : Layer × List Layer} (h : rs[j]? = some x) : siz d k (flat (rs.take j)) + siz d k (x.1 :: x.2) ≤ siz d k (flat rs) := by
  have e : flat (rs.take (j + 1)) = flat (rs.take j) ++ (x.1 :: x.2) := by
    rw [take_more h]
    unfold flat
    rw [List.flatMap_append]
    show _ ++ (x.1 :: x.2 ++ []) = _
    rw [List.append_nil]
  rw [← siz_append, ← e]
  conv => rhs; rw [← List.take_append_drop (j + 1) rs]
  unfold flat
  rw [List.flatMap_append, siz_append]
  omega
theorem kids_len (d : Doc) (p : Nat) : (d.kids p).length ≤ d.layers.length := List.length_filter_le _ _
section
variable {P : Program} {w : World} {K : PySem.W.Frag} {mg : Str → Option Value} {base : Heap} {c : CAd} {eN : Addr}
theorem d_composite0 (F : TopFn K mg "composite" "composite" s_composite P_composite) : DefAt P w K mg base CX0 43 "composite" P_composite (spComp K c 0) := by
  refine F.ok sc_composite (fun vs H Q E h => ?_) (fun fa cdv A outer s H vs Q E hr h => ?_)
  · obtain ⟨_, _, _, _, _, _, _, _, _, rfl, _⟩ := h; rfl
  obtain ⟨d, lay, f, p, i, k, v, px, N, rfl, X, hp, hr5, _⟩ := h
  have := X.l.le4 hp.known
  omega
theorem look {H : Hp} {d : Doc} {lay : Lay} (D : DocI c H d lay) (I : Ids d) {l : Layer} (hl : l ∈ d.layers) : DGet H (lay 0 1) (V.int (l.id : Int)) (some (.ref (lay l.id 0))) := by
  obtain ⟨kvs, hk, hv⟩ := D.val I l.id
  rw [find_of I hl] at hv
  have dg := DGet.k (k := Sum.inl (l.id : Int)) hk
  rw [hv] at dg
  exact dg
theorem d_composite1 (T : TC K mg c eN) (r : Nat) {kc : Nat} (hkc : 43 ≤ kc) (G_with_layer : DefAt P w K mg base CX0 (kc + 2) "with_layer" P_with_layer (spLay K c r)) (G_with_clipped : DefAt P w K mg base CX0 40 "with_clipped" P_with_clipped (spClip K c))
    (F : TopFn K mg "composite" "composite" s_composite P_composite) : DefAt P w K mg base CX0 (kc + 3) "composite" P_composite (spComp K c (r + 1)) := by
  refine F.ok sc_composite (fun vs H Q E h => ?_) (fun fa cdv A outer s H vs Q E hr h => ?_)
  · obtain ⟨_, _, _, _, _, _, _, _, _, rfl, _⟩ := h; rfl
  obtain ⟨d, lay, f, p, i, k, v, px, N, rfl, X, hp, hr5, hk5, hv, hN, fit, q⟩ := h
  have nd := sc_composite.nd
  refine ⟨_, (pss_cons (ps_set (i := 4) nd rfl (Or.inl rfl) (pv 3)) (pss_cons (ps_for PassesOwn.never rfl (pi_list (pc G_with_clipped (hr.mono (by omega)) pass0 (pa_cons (pe_lc (own := [("number", 7)]) (g := gName 7) (tt := tYes) rfl nd (pi_list (pv 1)) (blkOk_by (own := [("number", 7)]) (N := N_composite) (sc := defScope s_composite) (by decide +kernel)) (fun _ _ _ _ _ => pg_name (i := 7) nd rfl (Or.inl rfl)) (fun _ _ _ _ _ => pts_nil) (fun _ _ _ _ _ => (pe_dget (hu_of hr) (pfld (K := K) (pv 0) rfl) (pv 7) (fun _ _ => rfl)))) pa_nil))) (pg_tup rfl (pgs_cons (pg_name (i := 5) nd rfl (Or.inl rfl)) (pgs_cons (pg_name (i := 6) nd rfl (Or.inl rfl)) pgs_nil))) (pss_one (ps_if (pt_cmpR op_eq (pfld (K := K) (pv 5) rfl) pe_int (nomark _)) (pss_one (ps_set (i := 4) nd rfl (Or.inl rfl) (pc G_with_layer (hr.mono (by omega)) pass0 (pa_cons (pv 0) (pa_cons (pv 5) (pa_cons (pv 6) (pa_cons (pv 2) (pa_cons (pv 4) pa_nil)))))))) pss_nil))) (pss_one (ps_ret (pv 4))))), ?_⟩
  have p4 := X.l.le4 hp.known
  obtain ⟨k, rfl⟩ : ∃ k', k = k' + 1 := ⟨k - 1, by omega⟩
  have I := X.w.ids
  rw [cnt_succ] at fit
  rw [paint_succ] at q
  have kid : ∀ l ∈ d.kids p, l ∈ d.layers ∧ f l.id = f p + 1 := fun l hl => by
    obtain ⟨a, b⟩ := kids_mem.mp hl
    have u := (X.l.up l a).2.1
    rw [b] at u
    exact ⟨a, u⟩
  have hm := X.s.m p hp
  refine ⟨_, rfl, ?_⟩
  refine ⟨_, rfl, lay p 2, rfl, ⟨_, .of hm⟩, fun D1 hD1 => ?_⟩
  refine lc_list (K := K) (a := lay p 2) (xs := natV (kidIds d p)) (fun j H' => AccV H D1 (((kidIds d p).take j).map fun n => V.ref (lay n 0)) H') (AccV.start hD1) (fun j H' _ acc => Same.seq acc.same (.of hm)) ?_ ?_
  · intro j x H' hj acc
    obtain ⟨n, hn, rfl⟩ := natV_at hj
    obtain ⟨l, hl, hpar, rfl⟩ := kidIds_mem.mp (List.mem_of_getElem? hn)
    have Xj := X.mono acc.same
    obtain ⟨dx, hd⟩ := Xj.s.i.doc
    refine ⟨rfl, tYes_go ?_⟩
    refine ⟨_, rfl, _, _, _, _, _, rfl, hd, T.cD, T.nD _ (by decide), rfl, _, rfl, _, .ref (lay l.id 0), rfl, look Xj.s.i I hl, ?_⟩
    have e := acc.step (v := .ref (lay l.id 0)) (Same.refl _) (by
      have h1 := kids_len d p
      have h2 := X.w.len
      have h3 : (kidIds d p).length = (d.kids p).length := by unfold kidIds; rw [List.length_map]
      rw [List.length_map, List.length_take]
      omega)
    have e2 := map_take_more (f := fun n => V.ref (lay n 0)) hn
    rw [← e2] at e
    exact e
  · intro H1 acc
    rw [natV_length, List.take_length] at acc
    have ha := acc.at_
    have er : (kidIds d p).map (fun n => V.ref (lay n 0)) = refsL lay (d.kids p) := by
      unfold kidIds refsL
      rw [List.map_map]
      rfl
    rw [er] at ha
    have s1 := acc.same
    refine ⟨D1, lay, d.kids p, rfl, .of ha, Nat.le_trans (kids_len d p) X.w.len, fun l hl => (X.mono s1).ins (kid l hl).1, fun D2 H2 xs s2 hx hxl st => ?_⟩
    have s02 := s1.trans s2
    refine ⟨D2, rfl, ⟨_, .of hx⟩, ?_⟩
    have fr := flat_runs (d.kids p).length (d.kids p) (Nat.le_refl _)
    have pp := paint_pot X.w.ok X.hi k
    have mem : ∀ (j : Nat) (y : Layer × List Layer), (Ie02.runs (d.kids p))[j]? = some y → ∀ l ∈ y.1 :: y.2, l ∈ d.kids p := fun j y hy l hl => by
      rw [← fr]
      unfold flat
      exact List.mem_flatMap.mpr ⟨y, List.mem_of_getElem? hy, hl⟩
    have pot : ∀ j, Pot (((Ie02.runs (d.kids p)).take j).foldl (layS d k i) px) (N * 3 ^ siz d k (flat ((Ie02.runs (d.kids p)).take j))) := fun j =>
      lays_pot X.w.ok X.hi pp _ hN fun l hl => by
        unfold flat at hl
        obtain ⟨y, hy, hly⟩ := List.mem_flatMap.mp hl
        have : l ∈ flat (Ie02.runs (d.kids p)) := by
          unfold flat
          exact List.mem_flatMap.mpr ⟨y, List.mem_of_mem_take hy, hly⟩
        rw [fr] at this
        exact (kid l this).1
    refine for_list (K := K) (a := D2) (xs := xs) (fun j σ H' => ∃ z x5 x6 x7, Same H2 H' ∧ PAt K H' z (((Ie02.runs (d.kids p)).take j).foldl (layS d k i) px) ∧ σ = [some (.ref (lay 0 0)), some (.ref (lay p 2)), some (.int (i : Int)), some v, some z, x5, x6, x7])
      ⟨v, none, none, none, Same.refl _, hv.mono s02, rfl⟩ (fun j σ H' _ ⟨_, _, _, _, sm, _, _⟩ => Same.seq sm (.of hx)) ?_ ?_
    · rintro j x σ H' hj ⟨z, x5, x6, x7, sm, hz, rfl⟩
      obtain ⟨⟨l, cs⟩, hy, t, o, rfl, _, _, ht, ho⟩ := Paired.at st hj
      have hyl := mem j _ hy
      have Xj := X.mono (s02.trans sm)
      obtain ⟨hll, fl⟩ := kid l (hyl l List.mem_cons_self)
      obtain ⟨dl, il⟩ := Xj.ins hll
      have pj := pot j
      have szj := siz_flat (d := d) (k := k) hy
      rw [fr] at szj
      rw [take_more hy, List.foldl_append]
      generalize hpv : ((Ie02.runs (d.kids p)).take j).foldl (layS d k i) px = pv at hz pj
      have eo : [(l, cs)].foldl (layS d k i) pv = layS d k i pv (l, cs) := rfl
      rw [eo]
      refine ⟨t, _, rfl, .of (sm _ _ ht), rfl, _, _, rfl, _, _, rfl, rfl, ?_⟩
      refine ⟨_, rfl, _, _, _, _, _, rfl, il, T.cO _, T.nO _ _ (inBase (by decide) _), rfl, rfl, _, rfl, ?_⟩
      cases hs : l.shown with
      | false =>
        refine (if_neg (by simp)).mpr ⟨z, _, _, _, sm, ?_, rfl⟩
        unfold layS
        rw [hs, if_pos rfl]
        exact hz
      | true =>
        refine (if_pos (by rfl)).mpr ?_
        have fit2 : N * 3 ^ siz d k (flat ((Ie02.runs (d.kids p)).take j)) * 3 ^ siz d k (l :: cs) ≤ 120 * 3 ^ 12 := by
          rw [Nat.mul_assoc, ← Nat.pow_add]
          exact Nat.le_trans (Nat.mul_le_mul_left _ (Nat.pow_le_pow_right (by decide) szj)) fit
        refine ⟨_, rfl, _, rfl, _, rfl, _, rfl, _, rfl, d, lay, f, l, cs, o, i, k, z, pv, _, rfl, Xj, hll, .of (sm _ _ ho), fun x hx => ?_, by omega, by omega, hs, hz, pj, fit2, fun z2 H3 s3 hz2 => ?_⟩
        · obtain ⟨a, b⟩ := kid x (hyl x (List.mem_cons_of_mem _ hx))
          exact ⟨a, b.trans fl.symm⟩
        · exact ⟨z2, _, _, _, sm.trans s3, hz2, rfl⟩
    · rintro σ H' ⟨z, x5, x6, x7, sm, hz, rfl⟩
      have e0 : xs.length = (Ie02.runs (d.kids p)).length := st.length
      rw [e0, List.take_length] at hz
      exact ⟨_, rfl, q z H' (s02.trans sm) hz⟩
def spImage (K : PySem.W.Frag) (c : CAd) : Sp := fun vs H Q _ => ∃ (d : Doc) (lay : Lay) (f : Nat → Nat) (i : Nat), vs = [.ref (lay 0 0), .int (i : Int)] ∧ At K c H d lay f i ∧ ∀ z H', Same H H' → PAt K H' z (d.cell i) → Q z H'
abbrev s_image_pixel : Stmt := topS 58
abbrev N_image_pixel : List Str := ["document", "place"]
abbrev P_image_pixel : List Str := ["document", "place"]
theorem sc_image_pixel : FnScope N_image_pixel P_image_pixel (defScope s_image_pixel) := ⟨rfl, rfl, rfl, by decide +kernel, rfl, by decide +kernel, by decide +kernel⟩
theorem fit12 {d : Doc} (W : WF d) (k p : Nat) : 120 * 3 ^ cnt d k p ≤ 120 * 3 ^ 12 := by
  obtain ⟨f, L⟩ := W.lev
  exact Nat.mul_le_mul_left _ (Nat.pow_le_pow_right (by decide) (Nat.le_trans (cnt_le W.ids L k p) W.len))
theorem d_image_pixel (T : TC K mg c eN) (G_composite : DefAt P w K mg base CX0 58 "composite" P_composite (spComp K c 5)) (G_nothing : DefAt P w K mg base CX0 38 "nothing" P_nothing (spNothing K))
    (F : TopFn K mg "image_pixel" "image_pixel" s_image_pixel P_image_pixel) : DefAt P w K mg base CX0 59 "image_pixel" P_image_pixel (spImage K c) := by
  refine F.ok sc_image_pixel (fun vs H Q E h => ?_) (fun fa cdv A outer s H vs Q E hr h => ?_)
  · obtain ⟨_, _, _, _, rfl, _⟩ := h; rfl
  obtain ⟨d, lay, f, i, rfl, X, q⟩ := h
  have nd := sc_image_pixel.nd
  refine ⟨_, (pss_one (ps_ret (pc G_composite (hr.mono (by omega)) pass0 (pa_cons (pv 0) (pa_cons (pfld (K := K) (pv 0) rfl) (pa_cons (pv 1) (pa_cons (pc0 G_nothing (hr.mono (by omega)) pass0) pa_nil))))))), ?_⟩
  obtain ⟨dx, hd⟩ := X.s.i.doc
  refine ⟨_, rfl, _, rfl, _, _, _, _, _, rfl, hd, T.cD, T.nD _ (by decide), rfl, _, rfl, rfl, fun z H1 s1 hz => ?_⟩
  exact ⟨d, lay, f, 0, i, 10, z, Ie02.nothing, 120, rfl, X.mono s1, .inl rfl, by omega, by omega, hz, pot_nothing (Nat.le_refl _), fit12 X.w _ _, fun z2 H2 s2 hz2 => q z2 H2 (s1.trans s2) hz2⟩
end
end LH

set_option Elab.async false
set_option linter.all false
set_option maxRecDepth 100000
set_option maxHeartbeats 4000000
namespace LH
open PySem PySem.Spec PyProof.Rows L2
open Ie02 (Frac Px Colour Doc Layer)
open LM
/-! classes that are called, and defs reached through a class -/
structure ClsAt (P : Program) (w : World) (K : PySem.W.Frag) (mg : Str → Option Value) (base : Heap) (k : Nat) (x : Str) (C : Addr) (ps : List Str) (sp : Sp) : Prop where
  ex : ∃ (f : Addr) (fd : FuncData), FnOk P w K mg base CX0 k f fd ps sp ∧ Mk K C f ∧ mg x = some (.ref C) ∧ Binds K fd ps []
structure TopInit (K : PySem.W.Frag) (mg : Str → Option Value) (x qual : Str) (st : Stmt) (C : Addr) (ps : List Str) : Prop where
  ex : ∃ (f : Addr) (fd : FuncData), Fun K "__init__" qual st f fd ∧ Mk K C f ∧ mg x = some (.ref C) ∧ Binds K fd ps []
structure ViaAt (P : Program) (w : World) (K : PySem.W.Frag) (mg : Str → Option Value) (base : Heap) (k : Nat) (x m : Str) (C : Addr) (ps : List Str) (sp : Sp) : Prop where
  ex : ∃ (f : Addr) (fd : FuncData) (mc : Value), FnOk P w K mg base CX0 k f fd ps sp ∧ ClX.CRead K C mc ∧ ClX.CVal K C mc m (.ref f) (.ref f) ∧ PySem.W.keepIn K (.ref f) = true ∧ mg x = some (.ref C) ∧ Binds K fd ps []
structure TopVia (K : PySem.W.Frag) (mg : Str → Option Value) (x m qual : Str) (st : Stmt) (C : Addr) (ps : List Str) : Prop where
  ex : ∃ (f : Addr) (fd : FuncData) (mc : Value), Fun K m qual st f fd ∧ ClX.CRead K C mc ∧ ClX.CVal K C mc m (.ref f) (.ref f) ∧ mg x = some (.ref C) ∧ Binds K fd ps []
def tMkA (C : Addr) (sp : Sp) (E : XK) (t : TA) : TE := fun σ H Q => t σ H fun vs H1 => ∀ x dx, H1 x = none → H1 dx = none → dx ≠ x → sp (.ref x :: vs) (upd (upd H1 dx (.own x)) x (.ins C dx [])) (fun v H2 => v = .non ∧ Q (.ref x) H2) E
section
variable {P : Program} {w : World} {K : PySem.W.Frag} {mg : Str → Option Value} {base : Heap}
theorem TopInit.ok {x qual : Str} {st : Stmt} {N ps : List Str} {C : Addr} {k : Nat} {sp : Sp} (F : TopInit K mg x qual st C ps) (S : FnScope N ps (defScope st)) (len : ∀ vs H Q E, sp vs H Q E → vs.length = ps.length)
    (hbody : ∀ (f : Addr) (cdv : Value) (A : Around) (outer : List Env) (s : Shared) (H : Hp) (vs : List V) (Q : VK) (E : XK), Room k (A.deeper (envOfC qual (defScope st) s.heap.objs.size f cdv)) → sp vs H Q E →
      ∃ t, PSs (cxOf CX0 P w K mg base N qual (defScope st) f cdv A outer s H E).nox (defBody st) t ∧ t { nx := fun _ H' => Q .non H', rt := Q } (start N vs) H) : ClsAt P w K mg base (k + 1) x C ps sp := by
  obtain ⟨f, fd, hf, hm, hg, hb⟩ := F.ex
  exact ⟨f, fd, hf.ok S len (hbody f), hm, hg, hb⟩
theorem TopVia.ok {x m qual : Str} {st : Stmt} {N ps : List Str} {C : Addr} {k : Nat} {sp : Sp} (F : TopVia K mg x m qual st C ps) (S : FnScope N ps (defScope st)) (len : ∀ vs H Q E, sp vs H Q E → vs.length = ps.length)
    (hbody : ∀ (f : Addr) (cdv : Value) (A : Around) (outer : List Env) (s : Shared) (H : Hp) (vs : List V) (Q : VK) (E : XK), Room k (A.deeper (envOfC qual (defScope st) s.heap.objs.size f cdv)) → sp vs H Q E →
      ∃ t, PSs (cxOf CX0 P w K mg base N qual (defScope st) f cdv A outer s H E).nox (defBody st) t ∧ t { nx := fun _ H' => Q .non H', rt := Q } (start N vs) H) : ViaAt P w K mg base (k + 1) x m C ps sp := by
  obtain ⟨f, fd, mc, hf, hr, hv, hg, hb⟩ := F.ex
  exact ⟨f, fd, mc, hf.ok S len (hbody f), hr, hv, hf.kp, hg, hb⟩
end
section
variable {X : Cx} {k : Nat} {C : Addr} {ps : List Str} {sp : Sp} {E : XK} {x m : Str} {p pos apos : Pos} {e : Expr} {es : List Expr} {t : TA}
theorem pmkA (G : ClsAt X.prog X.w X.K X.mg X.base k x C ps sp) (hr : Room (k + 1) X.A) (hx : Passes CX0 X E) (ha : PA X (e :: es) t) (hg : Gl X x := by rfl)
    (hdb : (x == ("__debug__" : Str)) = false := by decide) (he : starEach (e :: es) X.env = (false, eval e X.env) :: starEach es X.env := by rfl) (hpl : (backTo pos (starEach es X.env)).any (·.1) = false := by rfl) :
    PE X (.Call (.Name x p) (e :: es) [] pos) (tMkA C sp E t) := by
  obtain ⟨f, fd, F, M, hm, hb⟩ := G.ex
  refine ⟨fun pins s σ H Q I h => (pe_make M F hr hg hm hb .nil hx ha hdb he hpl).run pins s σ H Q I ?_⟩
  unfold tMake
  unfold tMkA at h
  simpa only [List.append_nil] using h
theorem pmkA0 (G : ClsAt X.prog X.w X.K X.mg X.base k x C ps sp) (hr : Room (k + 1) X.A) (hx : Passes CX0 X E) (hg : Gl X x := by rfl)
    (hdb : (x == ("__debug__" : Str)) = false := by decide) : PE X (.Call (.Name x p) [] [] pos) (tMkA C sp E tNil) := by
  obtain ⟨f, fd, F, M, hm, hb⟩ := G.ex
  refine ⟨fun pins s σ H Q I h => (pe_make0 M F hr hg hm hb .nil hx hdb).run pins s σ H Q I ?_⟩
  unfold tMake
  unfold tMkA at h
  simpa only [List.append_nil] using h
theorem pclsA {pl : Sem Bool} (G : ViaAt X.prog X.w X.K X.mg X.base k x m C ps sp) (hr : Room k X.A) (ha : PA X (e :: es) t) (hg : Gl X x := by rfl)
    (hdb : (x == ("__debug__" : Str)) = false := by decide) (hst : starEach (e :: es) X.env = (false, eval e X.env) :: starEach es X.env := by rfl) (hpl : (backTo pos (starEach es X.env)).any (·.1) = false := by rfl)
    (ht : eval (.Call (.Attribute (.Name x p) m apos) (e :: es) [] pos) X.env = (do
      let ov ← eval (.Name x p) X.env
      standAt apos.atName
      let (f, first) ← holding [ov] (getMethod ov m pl)
      callWith pos f first (backTo pos (starEach (e :: es) X.env)) (backToKw pos (keywordEach [] X.env))) := by rfl) :
    PE X (.Call (.Attribute (.Name x p) m apos) (e :: es) [] pos) (tCl sp E0 t) := by
  obtain ⟨f, fd, mc, F, rd, kv, kp, hm, hb⟩ := G.ex
  exact pcls (pe_glob (v := .ref C) hg hm rfl hdb) rd kv F kp hr hb ha hst hpl ht
end
/-! a new layer -/
def newL (id p : Nat) (k : LKind) (n : Nat) : Layer := ⟨id, p, k, 0, 255, false, true, List.replicate n (0, 0, 0, 0), List.replicate n 255⟩
def mkLy (x m q : Addr) : Nat → Addr
  | 0 => x
  | 1 => m
  | _ => q
/-- a layer with its lists; an empty group -/
structure LayAt (K : PySem.W.Frag) (c : CAd) (H : Hp) (l : Layer) (ly : Nat → Addr) : Prop where
  ins : InsAt c H l ly
  mask : H (ly 1) = some (.lst (natV l.mask))
  pix : l.kind = .picture → ∃ xs, H (ly 2) = some (.lst xs) ∧ Paired (CellAt K H) xs l.cells
  mem : isGroup l.kind = true → H (ly 2) = some (.lst [])
  ne : isChange l.kind = false → ly 1 ≠ ly 2
/-- what is there but at x -/
def But (x : Addr) (H H' : Hp) : Prop := ∀ a u, a ≠ x → H a = some u → H' a = some u
theorem But.refl (x : Addr) (H : Hp) : But x H H := fun _ _ _ h => h
theorem But.upd {x : Addr} {H H' : Hp} {o : HO} (h : But x H H') : But x H (upd H' x o) := fun a u n e => by rw [upd_ne n]; exact h a u n e
theorem But.new {x a : Addr} {H H' : Hp} {o : HO} (h : But x H H') (n : H' a = none) : But x H (L2.upd H' a o) := fun b u ne e => Same.new n b u (h b u ne e)
theorem But.free {x a : Addr} {H H' : Hp} (h : But x H H') (ne : a ≠ x) (n : H' a = none) : H a = none := by
  cases e : H a with
  | none => rfl
  | some u => rw [h a u ne e] at n; cases n
def extraV : LKind → List V
  | .picture => []
  | .group t => [.int (t.toNat : Int)]
  | .change h => [.int (h : Int)]
def spLInit (c : CAd) : Sp := fun vs H Q _ => ∃ (x dx : Addr) (k : LKind) (p n : Nat), vs = [.ref x, .int (p : Int), .int (n : Int)] ∧ H x = some (.ins (c.of k) dx []) ∧ n ≤ 36 ∧
  ∀ m H', H m = none → m ≠ x → But x H H' → H' x = some (.ins (c.of k) dx (baseF (newL 0 p k n) m)) → H' m = some (.lst (natV (List.replicate n 255))) → Q .non H'
def spInit (K : PySem.W.Frag) (c : CAd) (k : LKind) : Sp := fun vs H Q _ => ∃ (x dx : Addr) (p n : Nat), vs = .ref x :: .int (p : Int) :: .int (n : Int) :: extraV k ∧ H x = some (.ins (c.of k) dx []) ∧ n ≤ 36 ∧
  ∀ m q H', H m = none → H q = none → But x H H' → (∀ id, LayAt K c H' (newL id p k n) (mkLy x m q)) → Q .non H'
section
variable {P : Program} {w : World} {K : PySem.W.Frag} {mg : Str → Option Value} {base : Heap} {c : CAd} {eN : Addr}
theorem rep_nat (n : Nat) (v : V) : (List.replicate ((n : Int).toNat) [v]).flatten = List.replicate n v := by
  rw [Int.toNat_natCast]
  induction n with
  | zero => rfl
  | succ n ih => rw [List.replicate_succ, List.flatten_cons, ih]; rfl
abbrev s_Layer_init : Stmt := inClass (topS 2) 0
abbrev N_Layer_init : List Str := ["self", "parent", "size"]
abbrev P_Layer_init : List Str := ["self", "parent", "size"]
theorem sc_Layer_init : FnScope N_Layer_init P_Layer_init (defScope s_Layer_init) := ⟨rfl, rfl, rfl, by decide +kernel, rfl, by decide +kernel, by decide +kernel⟩
theorem d_Layer_init (T : TC K mg c eN) {C : Addr} (F : TopVia K mg "Layer" "__init__" "Layer.__init__" s_Layer_init C P_Layer_init) : ViaAt P w K mg base 38 "Layer" "__init__" C P_Layer_init (spLInit c) := by
  refine F.ok sc_Layer_init (fun vs H Q E h => ?_) (fun fa cdv A outer s H vs Q E hr h => ?_)
  · obtain ⟨_, _, _, _, _, rfl, _⟩ := h; rfl
  obtain ⟨x, dx, k, p, n, rfl, hx, hn, q⟩ := h
  have nd := sc_Layer_init.nd
  refine ⟨_, (pss_cons (ps_fld (pv 0) (pv 1) rfl) (pss_cons (ps_fld (pv 0) pe_int rfl) (pss_cons (ps_fld (pv 0) pe_int rfl) (pss_cons (ps_fld (pv 0) pe_int rfl) (pss_cons (ps_fld (pv 0) pe_int rfl) (pss_one (ps_fld (pv 0) (pe_op op_rep (pe_lst (pa_cons pe_int pa_nil)) (pv 2)) rfl))))))), ?_⟩
  have na : ∀ f ∈ baseN, NoAttr K (c.of k) f := fun f hf => T.nO k f (inBase hf k)
  refine ⟨_, rfl, _, rfl, x, _, dx, _, rfl, hx, T.cO k, na _ (by decide), (by decide), ?_⟩
  refine ⟨_, rfl, x, _, dx, _, rfl, upd_same, T.cO k, na _ (by decide), (by show 1 < 1000; decide), ?_⟩
  refine ⟨_, rfl, x, _, dx, _, rfl, upd_same, T.cO k, na _ (by decide), (by show 2 < 1000; decide), ?_⟩
  refine ⟨_, rfl, x, _, dx, _, rfl, upd_same, T.cO k, na _ (by decide), (by show 3 < 1000; decide), ?_⟩
  refine ⟨_, rfl, x, _, dx, _, rfl, upd_same, T.cO k, na _ (by decide), (by show 4 < 1000; decide), ?_⟩
  rw [upd_upd, upd_upd, upd_upd, upd_upd]
  refine ⟨(by show 1 ≤ sizeLine; decide), fun p1 hp1 => ⟨_, rfl, p1, (n : Int), [.int 255], rfl, rfl, upd_same, by omega, by omega, ?_, fun m hm => ?_⟩⟩
  · have : (36 : Nat) ≤ sizeLine := by decide
    show 1 * (n : Int).toNat ≤ sizeLine
    omega
  have b1 := ((But.refl x H).upd (o := .ins (c.of k) dx _)).new (o := .lst [.int 255]) hp1
  have nm : m ≠ x := fun e => by
    rw [e, upd_ne (fun e2 => by rw [← e2, upd_same] at hp1; cases hp1), upd_same] at hm
    cases hm
  have n1 : x ≠ p1 := fun e2 => by rw [← e2, upd_same] at hp1; cases hp1
  refine ⟨_, rfl, x, _, dx, _, rfl, (by rw [upd_ne nm.symm, upd_ne n1, upd_same]), T.cO k, na _ (by decide), (by show 5 < 1000; decide), ?_⟩
  refine q m _ (b1.free nm hm) nm (b1.new hm).upd ?_ ?_
  · rw [upd_same]
    rfl
  · rw [upd_ne nm, upd_same, rep_nat]
    unfold natV
    rw [List.map_replicate]
    rfl
end
end LH

set_option Elab.async false
set_option linter.all false
set_option maxRecDepth 100000
set_option maxHeartbeats 4000000
namespace LH
open PySem PySem.Spec PyProof.Rows L2
open Ie02 (Frac Px Colour Doc Layer)
open LM
def spEmpty : Sp := fun vs H Q _ => vs = [] ∧ ∀ t, H t = none → Q (.ref t) (upd H t (.tup (natV [0, 0, 0, 0])))
theorem paired_rep {α β : Type} {R : α → β → Prop} {a : α} {b : β} (h : R a b) : ∀ n, Paired R (List.replicate n a) (List.replicate n b)
  | 0 => .nil
  | n + 1 => .cons h (paired_rep h n)
section
variable {P : Program} {w : World} {K : PySem.W.Frag} {mg : Str → Option Value} {base : Heap} {c : CAd} {eN : Addr}
abbrev s_empty_pixel : Stmt := topS 1
abbrev N_empty_pixel : List Str := []
abbrev P_empty_pixel : List Str := []
theorem sc_empty_pixel : FnScope N_empty_pixel P_empty_pixel (defScope s_empty_pixel) := ⟨rfl, rfl, rfl, by decide +kernel, rfl, by decide +kernel, by decide +kernel⟩
theorem d_empty_pixel (F : TopFn K mg "empty_pixel" "empty_pixel" s_empty_pixel P_empty_pixel) : DefAt P w K mg base CX0 38 "empty_pixel" P_empty_pixel spEmpty := by
  refine F.ok sc_empty_pixel (fun vs H Q E h => ?_) (fun fa cdv A outer s H vs Q E hr h => ?_)
  · obtain ⟨rfl, _⟩ := h; rfl
  obtain ⟨rfl, q⟩ := h
  have nd := sc_empty_pixel.nd
  refine ⟨_, (pss_one (ps_ret (pe_tup (pa_cons pe_int (pa_cons pe_int (pa_cons pe_int (pa_cons pe_int pa_nil))))))), ?_⟩
  exact ⟨(by show 4 ≤ sizeLine; decide), fun t ht => q t ht⟩
abbrev s_RasterLayer_init : Stmt := inClass (topS 3) 0
abbrev N_RasterLayer_init : List Str := ["self", "parent", "size"]
abbrev P_RasterLayer_init : List Str := ["self", "parent", "size"]
theorem sc_RasterLayer_init : FnScope N_RasterLayer_init P_RasterLayer_init (defScope s_RasterLayer_init) := ⟨rfl, rfl, rfl, by decide +kernel, rfl, by decide +kernel, by decide +kernel⟩
theorem d_RasterLayer_init (T : TC K mg c eN) {CL : Addr} (I_Layer : ViaAt P w K mg base 38 "Layer" "__init__" CL ["self", "parent", "size"] (spLInit c)) (G_empty_pixel : DefAt P w K mg base CX0 38 "empty_pixel" P_empty_pixel spEmpty)
    (F : TopInit K mg "RasterLayer" "RasterLayer.__init__" s_RasterLayer_init c.R P_RasterLayer_init) : ClsAt P w K mg base 39 "RasterLayer" c.R P_RasterLayer_init (spInit K c .picture) := by
  refine F.ok sc_RasterLayer_init (fun vs H Q E h => ?_) (fun fa cdv A outer s H vs Q E hr h => ?_)
  · obtain ⟨_, _, _, _, rfl, _⟩ := h; rfl
  obtain ⟨x, dx, p, n, rfl, hx, hn, q⟩ := h
  have nd := sc_RasterLayer_init.nd
  refine ⟨_, (pss_cons (ps_expr (pclsA I_Layer (hr.mono (by omega)) (pa_cons (pv 0) (pa_cons (pv 1) (pa_cons (pv 2) pa_nil))))) (pss_one (ps_fld (pv 0) (pe_op op_rep (pe_lst (pa_cons (pc0 G_empty_pixel (hr.mono (by omega)) pass0) pa_nil)) (pv 2)) rfl))), ?_⟩
  refine ⟨_, rfl, _, rfl, _, rfl, x, dx, .picture, p, n, rfl, hx, hn, fun m H1 hm nm b1 h1 h2 => ?_⟩
  refine ⟨rfl, fun t ht => ⟨(by show 1 ≤ sizeLine; decide), fun p1 hp1 => ⟨_, rfl, p1, (n : Int), [.ref t], rfl, rfl, upd_same, by omega, by omega, ?_, fun r hr2 => ?_⟩⟩⟩
  · have : (36 : Nat) ≤ sizeLine := by decide
    show 1 * (n : Int).toNat ≤ sizeLine
    omega
  rw [rep_nat] at *
  have s1 : Same H1 (upd H1 t (.tup (natV [0, 0, 0, 0]))) := Same.new ht
  have s2 := s1.trans (Same.new (o := .lst [.ref t]) hp1)
  have s3 := s2.trans (Same.new (o := .lst (List.replicate n (.ref t))) hr2)
  have hT : upd (upd (upd H1 t (.tup (natV [0, 0, 0, 0]))) p1 (.lst [.ref t])) r (.lst (List.replicate n (.ref t))) t = some (.tup (natV [0, 0, 0, 0])) := Same.new hr2 _ _ (Same.new hp1 _ _ upd_same)
  have hR : upd (upd (upd H1 t (.tup (natV [0, 0, 0, 0]))) p1 (.lst [.ref t])) r (.lst (List.replicate n (.ref t))) r = some (.lst (List.replicate n (.ref t))) := upd_same
  have fr : H1 r = none := s2.free hr2
  generalize upd (upd (upd H1 t (.tup (natV [0, 0, 0, 0]))) p1 (.lst [.ref t])) r (.lst (List.replicate n (.ref t))) = H2 at s3 hT hR ⊢
  have rx : r ≠ x := fun e => by rw [e, h1] at fr; cases fr
  have rm : m ≠ r := fun e => by rw [← e, h2] at fr; cases fr
  have tx : t ≠ x := fun e => by rw [e] at ht; rw [h1] at ht; cases ht
  refine ⟨_, rfl, x, _, dx, _, rfl, s3 _ _ h1, T.cO .picture, T.nO .picture _ (by decide), (by show 6 < 1000; decide), ?_⟩
  have b2 : But x H (upd H2 x (.ins (c.of .picture) dx (putF "pixels" (.ref r) (baseF (newL 0 p .picture n) m)))) := But.upd fun a u ne e => s3 _ _ (b1 a u ne e)
  refine q m r _ hm (b1.free rx fr) b2 fun id => ⟨⟨dx, ?_⟩, ?_, fun _ => ⟨List.replicate n (.ref t), ?_, ?_⟩, (fun h => by cases h), fun _ => rm⟩
  · exact upd_same
  · show upd H2 x _ m = _
    rw [upd_ne nm]
    exact s3 _ _ h2
  · show upd H2 x _ r = _
    rw [upd_ne rx]
    exact hR
  · refine paired_rep ⟨t, rfl, .of ?_⟩ n
    rw [upd_ne tx]
    exact hT
abbrev s_Group_init : Stmt := inClass (topS 4) 0
abbrev N_Group_init : List Str := ["self", "parent", "size", "pass_through"]
abbrev P_Group_init : List Str := ["self", "parent", "size", "pass_through"]
theorem sc_Group_init : FnScope N_Group_init P_Group_init (defScope s_Group_init) := ⟨rfl, rfl, rfl, by decide +kernel, rfl, by decide +kernel, by decide +kernel⟩
theorem d_Group_init (T : TC K mg c eN) {CL : Addr} (I_Layer : ViaAt P w K mg base 38 "Layer" "__init__" CL ["self", "parent", "size"] (spLInit c))
    (F : TopInit K mg "Group" "Group.__init__" s_Group_init c.G P_Group_init) (t : Bool) : ClsAt P w K mg base 39 "Group" c.G P_Group_init (spInit K c (.group t)) := by
  refine F.ok sc_Group_init (fun vs H Q E h => ?_) (fun fa cdv A outer s H vs Q E hr h => ?_)
  · obtain ⟨_, _, _, _, rfl, _⟩ := h; rfl
  obtain ⟨x, dx, p, n, rfl, hx, hn, q⟩ := h
  have nd := sc_Group_init.nd
  refine ⟨_, (pss_cons (ps_expr (pclsA I_Layer (hr.mono (by omega)) (pa_cons (pv 0) (pa_cons (pv 1) (pa_cons (pv 2) pa_nil))))) (pss_cons (ps_fld (pv 0) (pv 3) rfl) (pss_one (ps_fld (pv 0) (pe_lst pa_nil) rfl)))), ?_⟩
  refine ⟨_, rfl, _, rfl, _, rfl, x, dx, .group t, p, n, rfl, hx, hn, fun m H1 hm nm b1 h1 h2 => ?_⟩
  refine ⟨_, rfl, _, rfl, x, _, dx, _, rfl, h1, T.cO (.group t), T.nO (.group t) _ (show _ ∈ namesG by decide), (by show 6 < 1000; decide), ?_⟩
  refine ⟨(by show 0 ≤ sizeLine; decide), fun r hr2 => ?_⟩
  have nx : x ≠ r := fun e => by rw [← e, upd_same] at hr2; cases hr2
  refine ⟨_, rfl, x, _, dx, _, rfl, (by rw [upd_ne nx, upd_same]), T.cO (.group t), T.nO (.group t) _ (show _ ∈ namesG by decide), (by show 7 < 1000; decide), ?_⟩
  have fr : H1 r = none := by rw [upd_ne nx.symm] at hr2; exact hr2
  have rm : m ≠ r := fun e => by rw [← e, h2] at fr; cases fr
  refine q m r _ hm (b1.free nx.symm fr) (But.upd (fun a u ne e => ?_)) fun id => ⟨⟨dx, ?_⟩, ?_, (fun h => by cases h), fun _ => ?_, fun _ => rm⟩
  · rw [upd_ne (fun e2 => ?_), upd_ne ne]
    · exact b1 a u ne e
    · rw [e2] at e ne
      rw [b1 r u ne e] at fr
      cases fr
  · exact upd_same
  · show upd _ x _ m = _
    rw [upd_ne nm, upd_ne rm, upd_ne nm]
    exact h2
  · show upd _ x _ r = _
    rw [upd_ne nx.symm, upd_same]
abbrev s_AdjustmentLayer_init : Stmt := inClass (topS 5) 0
abbrev N_AdjustmentLayer_init : List Str := ["self", "parent", "size", "kind"]
abbrev P_AdjustmentLayer_init : List Str := ["self", "parent", "size", "kind"]
theorem sc_AdjustmentLayer_init : FnScope N_AdjustmentLayer_init P_AdjustmentLayer_init (defScope s_AdjustmentLayer_init) := ⟨rfl, rfl, rfl, by decide +kernel, rfl, by decide +kernel, by decide +kernel⟩
theorem d_AdjustmentLayer_init (T : TC K mg c eN) {CL : Addr} (I_Layer : ViaAt P w K mg base 38 "Layer" "__init__" CL ["self", "parent", "size"] (spLInit c))
    (F : TopInit K mg "AdjustmentLayer" "AdjustmentLayer.__init__" s_AdjustmentLayer_init c.A P_AdjustmentLayer_init) (how : Nat) : ClsAt P w K mg base 39 "AdjustmentLayer" c.A P_AdjustmentLayer_init (spInit K c (.change how)) := by
  refine F.ok sc_AdjustmentLayer_init (fun vs H Q E h => ?_) (fun fa cdv A outer s H vs Q E hr h => ?_)
  · obtain ⟨_, _, _, _, rfl, _⟩ := h; rfl
  obtain ⟨x, dx, p, n, rfl, hx, hn, q⟩ := h
  have nd := sc_AdjustmentLayer_init.nd
  refine ⟨_, (pss_cons (ps_expr (pclsA I_Layer (hr.mono (by omega)) (pa_cons (pv 0) (pa_cons (pv 1) (pa_cons (pv 2) pa_nil))))) (pss_one (ps_fld (pv 0) (pv 3) rfl))), ?_⟩
  refine ⟨_, rfl, _, rfl, _, rfl, x, dx, .change how, p, n, rfl, hx, hn, fun m H1 hm nm b1 h1 h2 => ?_⟩
  refine ⟨_, rfl, _, rfl, x, _, dx, _, rfl, h1, T.cO (.change how), T.nO (.change how) _ (show _ ∈ namesA by decide), (by show 6 < 1000; decide), ?_⟩
  refine q m m _ hm hm b1.upd fun id => ⟨⟨dx, upd_same⟩, ?_, fun h => (by cases h), fun h => (by cases h), fun h => (by cases h)⟩
  show upd _ x _ m = _
  rw [upd_ne nm]
  exact h2
end
end LH

set_option Elab.async false
set_option linter.all false
set_option maxRecDepth 100000
set_option maxHeartbeats 4000000
namespace LH
open PySem PySem.Spec PyProof.Rows L2
open Ie02 (Frac Px Colour Doc Layer)
open LM
/-! the parts of a document, and what a change leaves -/
def Used (d : Doc) (i p : Nat) : Prop := (i = 0 ∧ p ≤ 2) ∨ ∃ l ∈ d.layers, l.id = i ∧ (p ≤ 1 ∨ (p = 2 ∧ isChange l.kind = false))
def Inj (d : Doc) (lay : Lay) : Prop := ∀ i p j q, Used d i p → Used d j q → lay i p = lay j q → i = j ∧ p = q
def Foot (d : Doc) (lay : Lay) (a : Addr) : Prop := ∃ i p, Used d i p ∧ lay i p = a
structure DocH (K : PySem.W.Frag) (c : CAd) (H : Hp) (d : Doc) (lay : Lay) : Prop where
  s : DocS K c H d lay
  inj : Inj d lay
theorem DocH.mono {K : PySem.W.Frag} {c : CAd} {H H' : Hp} {d : Doc} {lay : Lay} (h : DocH K c H d lay) (s : Same H H') : DocH K c H' d lay := ⟨h.s.mono s, h.inj⟩
/-- H' is H but at the parts in S -/
def Kp (S : List (Nat × Nat)) (lay : Lay) (H H' : Hp) : Prop := ∀ a u, H a = some u → (∀ x ∈ S, lay x.1 x.2 ≠ a) → H' a = some u
/-- neither a tuple nor a frozen thing -/
def NoT (u : HO) : Prop := (∀ xs, u ≠ .tup xs) ∧ ∀ o v, u ≠ .frz o v
section
variable {S : List (Nat × Nat)} {lay : Lay} {H H1 H2 : Hp} {d : Doc} {K : PySem.W.Frag} {c : CAd}
theorem Kp.refl : Kp S lay H H := fun _ _ h _ => h
theorem Kp.step (k : Kp S lay H H1) (s : Same H1 H2) : Kp S lay H H2 := fun a u h n => s _ _ (k a u h n)
theorem Kp.upd (k : Kp S lay H H1) {i p : Nat} {o : HO} (m : (i, p) ∈ S) : Kp S lay H (upd H1 (lay i p) o) := fun a u h n => by
  rw [upd_ne (fun e => n _ m e.symm)]
  exact k a u h n
theorem Kp.at_ (k : Kp S lay H H1) (J : Inj d lay) (us : ∀ x ∈ S, Used d x.1 x.2) {i p : Nat} {u : HO} (hu : Used d i p) (n : (i, p) ∉ S) (h : H (lay i p) = some u) : H1 (lay i p) = some u :=
  k _ u h fun x hx e => n (by
    obtain ⟨e1, e2⟩ := J _ _ _ _ (us x hx) hu e
    rw [← e1, ← e2]
    exact hx)
theorem Kp.tup (k : Kp S lay H H1) (nt : ∀ x ∈ S, ∃ u, H (lay x.1 x.2) = some u ∧ NoT u) {a : Addr} {xs : List V} (h : SqT K H a xs) : SqT K H1 a xs := by
  have ne : ∀ {u : HO}, H a = some u → ¬ NoT u → ∀ x ∈ S, lay x.1 x.2 ≠ a := fun hu z x hx e => by
    obtain ⟨v, hv, t⟩ := nt x hx
    rw [e, hu] at hv
    cases hv
    exact z t
  rcases h with (h | ⟨o, h⟩) | h
  · exact .inl (.inl (k _ _ h (ne h fun t => t.1 _ rfl)))
  · exact .inl (.inr ⟨o, k _ _ h (ne h fun t => t.2 _ _ rfl)⟩)
  · exact .inr h
theorem Kp.cell (k : Kp S lay H H1) (nt : ∀ x ∈ S, ∃ u, H (lay x.1 x.2) = some u ∧ NoT u) {v : V} {q : Nat × Nat × Nat × Nat} (h : CellAt K H v q) : CellAt K H1 v q := let ⟨a, e, h⟩ := h; ⟨a, e, k.tup nt h⟩
theorem Kp.away (k : Kp S lay H H1) (us : ∀ x ∈ S, Used d x.1 x.2) {a : Addr} {u : HO} (h : H a = some u) (n : ¬ Foot d lay a) : H1 a = some u := k a u h fun x hx e => n ⟨_, _, us x hx, e⟩
theorem noT_lst {xs : List V} : NoT (.lst xs) := ⟨(fun _ h => by cases h), (fun _ _ h => by cases h)⟩
theorem noT_dK {xs : List (Key × V)} : NoT (.dK xs) := ⟨(fun _ h => by cases h), (fun _ _ h => by cases h)⟩
theorem noT_ins {C dx : Addr} {fs : List (Str × V)} : NoT (.ins C dx fs) := ⟨(fun _ h => by cases h), (fun _ _ h => by cases h)⟩
theorem used0 {p : Nat} (h : p ≤ 2) : Used d 0 p := .inl ⟨rfl, h⟩
theorem usedL {l : Layer} (hl : l ∈ d.layers) {p : Nat} (h : p ≤ 1) : Used d l.id p := .inr ⟨l, hl, rfl, .inl h⟩
theorem usedC {l : Layer} (hl : l ∈ d.layers) (h : isChange l.kind = false) : Used d l.id 2 := .inr ⟨l, hl, rfl, .inr ⟨rfl, h⟩⟩
theorem usedP {p : Nat} (h : Par d p) : Used d p 2 := by
  rcases h with rfl | ⟨l, hl, rfl, g⟩
  · exact used0 (Nat.le_refl _)
  · exact usedC hl (by cases e : l.kind <;> rw [e] at g <;> first | rfl | cases g)
/-- each part holds something that is no tuple -/
theorem DocS.noT (D : DocS K c H d lay) {i p : Nat} (h : Used d i p) : ∃ u, H (lay i p) = some u ∧ NoT u := by
  rcases h with ⟨rfl, hp⟩ | ⟨l, hl, rfl, hp | ⟨rfl, hk⟩⟩
  · match p, hp with
    | 0, _ => obtain ⟨dx, h⟩ := D.i.doc; exact ⟨_, h, noT_ins⟩
    | 1, _ => obtain ⟨kvs, h, _⟩ := D.i.dict; exact ⟨_, h, noT_dK⟩
    | 2, _ => exact ⟨_, D.m 0 (.inl rfl), noT_lst⟩
  · match p, hp with
    | 0, _ => obtain ⟨dx, h⟩ := D.i.ins l hl; exact ⟨_, h, noT_ins⟩
    | 1, _ => exact ⟨_, D.k l hl, noT_lst⟩
  · cases hk2 : l.kind with
    | change h => rw [hk2] at hk; cases hk
    | picture => obtain ⟨xs, h, _⟩ := D.p l hl hk2; exact ⟨_, h, noT_lst⟩
    | group t => exact ⟨_, D.m l.id (.inr ⟨l, hl, rfl, by rw [hk2]; rfl⟩), noT_lst⟩
theorem DocS.noTs (D : DocS K c H d lay) (us : ∀ x ∈ S, Used d x.1 x.2) : ∀ x ∈ S, ∃ u, H (lay x.1 x.2) = some u ∧ NoT u := fun x hx => D.noT (us x hx)
theorem foot_some (D : DocS K c H d lay) {a : Addr} (h : Foot d lay a) : ∃ u, H a = some u := by
  obtain ⟨i, p, hu, rfl⟩ := h
  obtain ⟨u, h, _⟩ := D.noT hu
  exact ⟨u, h⟩
end
/-- from one document to the next: what is no part stays; new parts are new -/
structure Trans (H : Hp) (d : Doc) (lay : Lay) (H' : Hp) (d' : Doc) (lay' : Lay) : Prop where
  keep : ∀ a u, H a = some u → ¬ Foot d lay a → H' a = some u
  new : ∀ a, Foot d' lay' a → Foot d lay a ∨ H a = none
theorem Trans.same {H H' : Hp} {d : Doc} {lay : Lay} (s : Same H H') : Trans H d lay H' d lay := ⟨fun a u h _ => s _ _ h, fun a h => .inl h⟩
theorem Trans.trans {H H1 H2 : Hp} {d d1 d2 : Doc} {lay lay1 lay2 : Lay} (x : Trans H d lay H1 d1 lay1) (y : Trans H1 d1 lay1 H2 d2 lay2) : Trans H d lay H2 d2 lay2 := by
  have nf : ∀ a u, H a = some u → ¬ Foot d lay a → ¬ Foot d1 lay1 a := fun a u h n f => by
    rcases x.new a f with g | g
    · exact n g
    · rw [h] at g; cases g
  refine ⟨fun a u h n => y.keep a u (x.keep a u h n) (nf a u h n), fun a f => ?_⟩
  rcases y.new a f with g | g
  · exact x.new a g
  · cases e : H a with
    | none => exact .inr rfl
    | some u =>
      refine .inl (Classical.byContradiction fun n => ?_)
      rw [x.keep a u e n] at g
      cases g
section
variable {P : Program} {w : World} {K : PySem.W.Frag} {mg : Str → Option Value} {base : Heap} {c : CAd} {eN : Addr}
/-! beginning anew -/
/-- a document's instance, whatever it holds: its dict, its root and the rest are made anew -/
def begLay (lay : Lay) (k r : Addr) : Lay := fun i p => if i = 0 then (match p with | 0 => lay 0 0 | 1 => k | _ => r) else lay i p
def spBegin (K : PySem.W.Frag) (c : CAd) : Sp := fun vs H Q _ => ∃ (a dx : Addr) (fs : List (Str × V)) (wd ht : Nat), vs = [.ref a, .int (wd : Int), .int (ht : Int)] ∧ H a = some (.ins c.D dx fs) ∧ (fs = [] ∨ ∃ d lay, fs = docF d lay) ∧
  ∀ k r H', H k = none → H r = none → k ≠ a → r ≠ a → k ≠ r → But a H H' → H' a = some (.ins c.D dx [("width", .int (wd : Int)), ("height", .int (ht : Int)), ("layers", .ref k), ("root", .ref r), ("next_number", .int 1)]) → H' k = some (.dK []) → H' r = some (.lst []) → Q .non H'
abbrev s_Document_begin : Stmt := inClass (topS 13) 1
abbrev N_Document_begin : List Str := ["self", "width", "height"]
abbrev P_Document_begin : List Str := ["self", "width", "height"]
theorem sc_Document_begin : FnScope N_Document_begin P_Document_begin (defScope s_Document_begin) := ⟨rfl, rfl, rfl, by decide +kernel, rfl, by decide +kernel, by decide +kernel⟩
theorem d_begin (T : TC K mg c eN) (F : TopMet K c.D "begin" "Document.begin" s_Document_begin P_Document_begin) : MetAt P w K mg base CX0 38 c.D "begin" P_Document_begin (spBegin K c) := by
  refine F.ok sc_Document_begin (fun vs H Q E h => ?_) (fun fa cdv A outer s H vs Q E hr h => ?_)
  · obtain ⟨_, _, _, _, _, rfl, _⟩ := h; rfl
  obtain ⟨a, dx, fs, wd, ht, rfl, ha, hf, q⟩ := h
  have nd := sc_Document_begin.nd
  refine ⟨_, (pss_cons (ps_fld (pv 0) (pv 1) rfl) (pss_cons (ps_fld (pv 0) (pv 2) rfl) (pss_cons (ps_fld (pv 0) pe_dnewK rfl) (pss_cons (ps_fld (pv 0) (pe_lst pa_nil) rfl) (pss_one (ps_fld (pv 0) pe_int rfl)))))), ?_⟩
  have l5 : fs.length ≤ 5 := by
    rcases hf with rfl | ⟨d, lay, rfl⟩
    · exact Nat.zero_le _
    · exact Nat.le_refl _
  have pl : ∀ (f : Str) (v : V) (gs : List (Str × V)), (putF f v gs).length ≤ gs.length + 1 := fun f v gs => by
    induction gs with
    | nil => exact Nat.le_refl _
    | cons x r ih =>
      obtain ⟨g, y⟩ := x
      unfold putF
      split
      · exact Nat.le_succ _
      · exact Nat.succ_le_succ ih
  have len : ∀ {f : Str} {v : V} {gs : List (Str × V)} {n : Nat}, gs.length ≤ n → (putF f v gs).length ≤ n + 1 := fun h => Nat.le_trans (pl _ _ _) (Nat.succ_le_succ h)
  refine ⟨_, rfl, _, rfl, a, _, dx, _, rfl, ha, T.cD, T.nD _ (by decide), by omega, ?_⟩
  refine ⟨_, rfl, _, rfl, a, _, dx, _, rfl, upd_same, T.cD, T.nD _ (by decide), Nat.lt_of_le_of_lt (len l5) (by decide), ?_⟩
  rw [upd_upd]
  intro k hk
  have ka : k ≠ a := fun e => by rw [e, upd_same] at hk; cases hk
  refine ⟨_, rfl, a, _, dx, _, rfl, (by rw [upd_ne ka.symm, upd_same]), T.cD, T.nD _ (by decide), Nat.lt_of_le_of_lt (len (len l5)) (by decide), ?_⟩
  refine ⟨(by show 0 ≤ sizeLine; decide), fun r hr2 => ?_⟩
  have ra : r ≠ a := fun e => by rw [e, upd_same] at hr2; cases hr2
  have rk : k ≠ r := fun e => by rw [← e, upd_ne ka, upd_same] at hr2; cases hr2
  refine ⟨_, rfl, a, _, dx, _, rfl, (by rw [upd_ne ra.symm, upd_same]), T.cD, T.nD _ (by decide), Nat.lt_of_le_of_lt (len (len (len l5))) (by decide), ?_⟩
  refine ⟨_, rfl, a, _, dx, _, rfl, upd_same, T.cD, T.nD _ (by decide), Nat.lt_of_le_of_lt (len (len (len (len l5)))) (by decide), ?_⟩
  have b : But a H _ := ((((But.refl a H).upd (o := .ins c.D dx (putF "height" (.int (ht : Int)) (putF "width" (.int (wd : Int)) fs)))).new (o := .dK []) hk).upd (o := .ins c.D dx (putF "layers" (.ref k) (putF "height" (.int (ht : Int)) (putF "width" (.int (wd : Int)) fs))))).new (o := .lst []) hr2
  refine q k r _ (((But.refl a H).upd (o := .ins c.D dx (putF "height" (.int (ht : Int)) (putF "width" (.int (wd : Int)) fs)))).free ka hk) ((((But.refl a H).upd (o := .ins c.D dx (putF "height" (.int (ht : Int)) (putF "width" (.int (wd : Int)) fs)))).new (o := .dK []) hk).upd.free ra hr2) ka ra rk b.upd.upd ?_ ?_ ?_
  · rw [upd_same]
    rcases hf with rfl | ⟨d, lay, rfl⟩
    · rfl
    · rfl
  · rw [upd_ne ka, upd_ne ka, upd_ne rk, upd_ne ka, upd_same]
  · rw [upd_ne ra, upd_ne ra, upd_same]
theorem begin_doc {H' : Hp} {a dx k r : Addr} {wd ht : Nat} (lay : Lay) (hl : lay 0 0 = a) (ka : k ≠ a) (ra : r ≠ a) (kr : k ≠ r) (h1 : H' a = some (.ins c.D dx [("width", .int (wd : Int)), ("height", .int (ht : Int)), ("layers", .ref k), ("root", .ref r), ("next_number", .int 1)])) (h2 : H' k = some (.dK [])) (h3 : H' r = some (.lst [])) :
    DocH K c H' ⟨wd, ht, [], 1⟩ (begLay lay k r) := by
  subst hl
  have no : ∀ l ∈ (⟨wd, ht, [], 1⟩ : Doc).layers, False := fun l h => by cases h
  refine ⟨⟨⟨⟨dx, h1⟩, ⟨[], h2, List.Perm.refl _⟩, fun l h => (no l h).elim⟩, fun p hp => ?_, fun l h => (no l h).elim, fun l h => (no l h).elim⟩, fun i p j q hi hj e => ?_⟩
  · rcases hp with rfl | ⟨l, h, _⟩
    · exact h3
    · exact (no l h).elim
  · rcases hi with ⟨rfl, hp⟩ | ⟨l, h, _⟩
    · rcases hj with ⟨rfl, hq⟩ | ⟨l, h, _⟩
      · refine ⟨rfl, ?_⟩
        match p, hp, q, hq with
        | 0, _, 0, _ => rfl
        | 1, _, 1, _ => rfl
        | 2, _, 2, _ => rfl
        | 0, _, 1, _ => exact (ka e.symm).elim
        | 0, _, 2, _ => exact (ra e.symm).elim
        | 1, _, 0, _ => exact (ka e).elim
        | 1, _, 2, _ => exact (kr e).elim
        | 2, _, 0, _ => exact (ra e).elim
        | 2, _, 1, _ => exact (kr e.symm).elim
      · exact (no l h).elim
    · exact (no l h).elim
theorem begin_trans {H H' : Hp} {d : Doc} {lay : Lay} {k r : Addr} {wd ht : Nat} (b : But (lay 0 0) H H') (hk : H k = none) (hr : H r = none) : Trans H d lay H' ⟨wd, ht, [], 1⟩ (begLay lay k r) := by
  have no : ∀ l ∈ (⟨wd, ht, [], 1⟩ : Doc).layers, False := fun l h => by cases h
  refine ⟨fun a u h n => b a u (fun e => n ⟨0, 0, used0 (Nat.zero_le _), e.symm⟩) h, fun a f => ?_⟩
  obtain ⟨i, p, ⟨rfl, hp⟩ | ⟨l, h, _⟩, rfl⟩ := f
  · match p, hp with
    | 0, _ => exact .inl ⟨0, 0, used0 (Nat.zero_le _), rfl⟩
    | 1, _ => exact .inr hk
    | 2, _ => exact .inr hr
  · exact (no l h).elim
abbrev s_Document_init : Stmt := inClass (topS 13) 0
abbrev N_Document_init : List Str := ["self"]
abbrev P_Document_init : List Str := ["self"]
theorem sc_Document_init : FnScope N_Document_init P_Document_init (defScope s_Document_init) := ⟨rfl, rfl, rfl, by decide +kernel, rfl, by decide +kernel, by decide +kernel⟩
def spDInit (K : PySem.W.Frag) (c : CAd) : Sp := fun vs H Q _ => ∃ (a dx : Addr), vs = [.ref a] ∧ H a = some (.ins c.D dx []) ∧
  ∀ lay H', lay 0 0 = a → But a H H' → (∀ b, Foot Ie02.init lay b → b = a ∨ H b = none) → DocH K c H' Ie02.init lay → Q .non H'
theorem d_Document_init (T : TC K mg c eN) (M_begin : MetAt P w K mg base CX0 38 c.D "begin" P_Document_begin (spBegin K c)) (F : TopInit K mg "Document" "Document.__init__" s_Document_init c.D P_Document_init) : ClsAt P w K mg base 39 "Document" c.D P_Document_init (spDInit K c) := by
  refine F.ok sc_Document_init (fun vs H Q E h => ?_) (fun fa cdv A outer s H vs Q E hr h => ?_)
  · obtain ⟨_, _, rfl, _⟩ := h; rfl
  obtain ⟨a, dx, rfl, ha, q⟩ := h
  have nd := sc_Document_init.nd
  refine ⟨_, (pss_one (ps_expr (pm (pv 0) T.cD M_begin (hr.mono (by omega)) pass0 (pa_cons pe_int (pa_cons pe_int pa_nil))))), ?_⟩
  refine ⟨_, rfl, a, dx, [], rfl, ha, rfl, a, dx, [], 1, 1, rfl, ha, .inl rfl, fun k r H' hk hr2 ka ra kr b h1 h2 h3 => ?_⟩
  refine q (begLay (fun _ _ => a) k r) H' rfl b (fun z f => ?_) (begin_doc (wd := 1) (ht := 1) (fun _ _ => a) rfl ka ra kr h1 h2 h3)
  obtain ⟨i, p, ⟨rfl, hp⟩ | ⟨l, h, _⟩, rfl⟩ := f
  · match p, hp with
    | 0, _ => exact .inl rfl
    | 1, _ => exact .inr hk
    | 2, _ => exact .inr hr2
  · cases h
end
end LH

set_option Elab.async false
set_option linter.all false
set_option maxRecDepth 100000
set_option maxHeartbeats 400000
namespace LH
open PySem PySem.Spec PyProof.Rows L2
open Ie02 (Frac Px Colour Doc Layer)
open LM
def layPut (lay : Lay) (n : Nat) (ly : Nat → Addr) : Lay := fun i p => if i = n then ly p else lay i p
section
variable {lay : Lay} {H H' : Hp} {d : Doc} {K : PySem.W.Frag} {c : CAd} {l : Layer} {ly : Nat → Addr}
theorem layPut_new (n : Nat) : layPut lay n ly n = ly := by
  funext p
  exact if_pos rfl
theorem layPut_old {n i : Nat} (h : i ≠ n) : layPut lay n ly i = lay i := by
  funext p
  exact if_neg h
theorem LayAt.ne01 (L : LayAt K c H l ly) : ly 0 ≠ ly 1 := fun e => by
  obtain ⟨dx, h⟩ := L.ins
  rw [e, L.mask] at h
  cases h
theorem LayAt.ne02 (L : LayAt K c H l ly) (nc : isChange l.kind = false) : ly 0 ≠ ly 2 := fun e => by
  obtain ⟨dx, h⟩ := L.ins
  cases hk : l.kind with
  | change x => rw [hk] at nc; cases nc
  | picture =>
    obtain ⟨xs, hx, _⟩ := L.pix hk
    rw [e, hx] at h
    cases h
  | group t =>
    rw [e, L.mem (by rw [hk]; rfl)] at h
    cases h
theorem push_used {i p : Nat} (h : Used (pushD d l) i p) : Used d i p ∨ (i = l.id ∧ (p ≤ 1 ∨ (p = 2 ∧ isChange l.kind = false))) := by
  rcases h with h | ⟨m, hm, e, r⟩
  · exact .inl (.inl h)
  · rcases List.mem_append.mp hm with hm | hm
    · exact .inl (.inr ⟨m, hm, e, r⟩)
    · rw [List.mem_singleton.mp hm] at e r
      exact .inr ⟨e.symm, r⟩
theorem used_lt (W : WF d) {i p : Nat} (h : Used d i p) : i < d.next := by
  rcases h with ⟨rfl, _⟩ | ⟨m, hm, rfl, _⟩
  · exact W.n1
  · exact W.nx m hm
theorem push_foot (W : WF d) (hi : l.id = d.next) {a : Addr} (h : Foot (pushD d l) (layPut lay d.next ly) a) : Foot d lay a ∨ ∃ p, p ≤ 2 ∧ ly p = a := by
  obtain ⟨i, p, hu, rfl⟩ := h
  rcases push_used hu with hu | ⟨rfl, hp⟩
  · rw [layPut_old (Nat.ne_of_lt (used_lt W hu))]
    exact .inl ⟨i, p, hu, rfl⟩
  · rw [hi, layPut_new]
    exact .inr ⟨p, by omega, rfl⟩
theorem push_par' {q : Nat} (h : Par (pushD d l) q) : Par d q ∨ (q = l.id ∧ isGroup l.kind = true) := by
  rcases h with h | ⟨m, hm, e, g⟩
  · exact .inl (.inl h)
  · rcases List.mem_append.mp hm with hm | hm
    · exact .inl (.inr ⟨m, hm, e, g⟩)
    · rw [List.mem_singleton.mp hm] at e g
      exact .inr ⟨e.symm, g⟩
theorem push_doc (D : DocH K c H d lay) (W : WF d) (hi : l.id = d.next) (hp : Par d l.parent) (L : LayAt K c H l ly) (nf : ∀ p, p ≤ 2 → ¬ Foot d lay (ly p)) (k : Kp [(l.parent, 2), (0, 1), (0, 0)] lay H H')
    (h1 : H' (lay l.parent 2) = some (.lst (natV (kidIds d l.parent) ++ [.int (l.id : Int)]))) (h2 : ∃ kvs, H' (lay 0 1) = some (.dK kvs) ∧ kvs.Perm (d.layers.map (ent lay) ++ [(Sum.inl (l.id : Int), V.ref (ly 0))]))
    (h3 : ∃ dx, H' (lay 0 0) = some (.ins c.D dx (docF (pushD d l) lay))) : DocH K c H' (pushD d l) (layPut lay d.next ly) := by
  have us : ∀ x ∈ [(l.parent, 2), (0, 1), (0, 0)], Used d x.1 x.2 := fun x hx => by
    simp only [List.mem_cons, List.not_mem_nil, or_false] at hx
    rcases hx with rfl | rfl | rfl
    · exact usedP hp
    · exact used0 (by decide)
    · exact used0 (by decide)
  have nt := D.s.noTs us
  have zero : ∀ p, layPut lay d.next ly 0 p = lay 0 p := fun p => by
    have := W.n1
    rw [layPut_old (by omega)]
  have old : ∀ m ∈ d.layers, layPut lay d.next ly m.id = lay m.id := fun m hm => layPut_old (Nat.ne_of_lt (W.nx m hm))
  have new : layPut lay d.next ly l.id = ly := by rw [hi]; exact layPut_new _
  have aw : ∀ {p u}, p ≤ 2 → H (ly p) = some u → H' (ly p) = some u := fun hp2 h => k.away us h (nf _ hp2)
  have m0 : ∀ m ∈ d.layers, m.id ≠ 0 := fun m hm => by have := W.ids.2 m hm; omega
  refine ⟨⟨⟨?_, ?_, fun m hm => ?_⟩, fun p h => ?_, fun m hm => ?_, fun m hm hk => ?_⟩, fun i p j q ui uj e => ?_⟩
  · rw [zero]
    obtain ⟨dx, h3⟩ := h3
    refine ⟨dx, h3.trans ?_⟩
    unfold docF
    rw [zero, zero]
  · rw [zero]
    obtain ⟨kvs, h2, p⟩ := h2
    refine ⟨kvs, h2, p.trans ?_⟩
    show (_ : List (Key × V)).Perm ((d.layers ++ [l]).map (ent (layPut lay d.next ly)))
    rw [List.map_append]
    have e : d.layers.map (ent (layPut lay d.next ly)) = d.layers.map (ent lay) := List.map_congr_left fun m hm => by
      unfold ent
      rw [old m hm]
    rw [e]
    show (_ : List (Key × V)).Perm (_ ++ [(Sum.inl (l.id : Int), V.ref (layPut lay d.next ly l.id 0))])
    rw [new]
  · rcases List.mem_append.mp hm with hm | hm
    · rw [old m hm]
      obtain ⟨dx, h⟩ := D.s.i.ins m hm
      exact ⟨dx, k.at_ D.inj us (usedL hm (by decide)) (by simpa using m0 m hm) h⟩
    · rw [List.mem_singleton.mp hm, new]
      obtain ⟨dx, h⟩ := L.ins
      exact ⟨dx, aw (by decide) h⟩
  · rcases push_par' h with h | ⟨rfl, g⟩
    · have lt := par_lt W h
      rw [layPut_old (Nat.ne_of_lt lt), push_kidIds]
      by_cases c0 : l.parent = p
      · subst c0
        rw [if_pos rfl, natV_append]
        exact h1
      · rw [if_neg c0, List.append_nil]
        exact k.at_ D.inj us (usedP h) (by simp; omega) (D.s.m p h)
    · rw [new]
      have := push_new_kids W hi hp
      rw [← hi] at this
      rw [this]
      exact aw (Nat.le_refl _) (L.mem g)
  · rcases List.mem_append.mp hm with hm | hm
    · rw [old m hm]
      exact k.at_ D.inj us (usedL hm (Nat.le_refl _)) (by simpa using m0 m hm) (D.s.k m hm)
    · rw [List.mem_singleton.mp hm, new]
      exact aw (by decide) L.mask
  · rcases List.mem_append.mp hm with hm | hm
    · rw [old m hm]
      obtain ⟨xs, h, cs⟩ := D.s.p m hm hk
      refine ⟨xs, k.at_ D.inj us (usedC hm (by rw [hk]; rfl)) ?_ h, L2.Paired.mapP cs fun _ _ x => k.cell nt x⟩
      simp only [List.mem_cons, Prod.mk.injEq, List.not_mem_nil, or_false, and_true, not_or]
      refine ⟨fun e => ?_, by omega, by omega⟩
      rcases hp with z | ⟨m2, hm2, e2, g⟩
      · exact m0 m hm (e.trans z)
      · have := mem_unique W.ids hm hm2 (e.trans e2.symm)
        subst this
        rw [hk] at g
        cases g
    · rw [List.mem_singleton.mp hm] at hk ⊢
      rw [new]
      obtain ⟨xs, h, cs⟩ := L.pix hk
      exact ⟨xs, aw (Nat.le_refl _) h, L2.Paired.mapP cs fun _ _ x => k.cell nt x⟩
  · have cr : ∀ {i p q : Nat}, Used d i p → q ≤ 2 → lay i p ≠ ly q := fun hu hq e => nf _ hq ⟨_, _, hu, e⟩
    have le2 : ∀ {p : Nat}, (p ≤ 1 ∨ (p = 2 ∧ isChange l.kind = false)) → p ≤ 2 := fun h => by omega
    rcases push_used ui with ui | ⟨rfl, hp2⟩
    · rw [layPut_old (Nat.ne_of_lt (used_lt W ui))] at e
      rcases push_used uj with uj | ⟨rfl, hq2⟩
      · rw [layPut_old (Nat.ne_of_lt (used_lt W uj))] at e
        exact D.inj _ _ _ _ ui uj e
      · rw [new] at e
        exact (cr ui (le2 hq2) e).elim
    · rw [new] at e
      rcases push_used uj with uj | ⟨rfl, hq2⟩
      · rw [layPut_old (Nat.ne_of_lt (used_lt W uj))] at e
        exact (cr uj (le2 hp2) e.symm).elim
      · rw [new] at e
        refine ⟨rfl, ?_⟩
        have c2 : p = 2 → isChange l.kind = false := fun z => by
          rcases hp2 with h | h
          · omega
          · exact h.2
        have c2' : q = 2 → isChange l.kind = false := fun z => by
          rcases hq2 with h | h
          · omega
          · exact h.2
        have lp := le2 hp2
        have lq := le2 hq2
        clear hp2 hq2
        have c3 : ∀ z : Nat, z ≤ 2 → z = 0 ∨ z = 1 ∨ z = 2 := fun z h => by omega
        rcases c3 p lp with rfl | rfl | rfl
        · rcases c3 q lq with rfl | rfl | rfl
          · rfl
          · exact (L.ne01 e).elim
          · exact (L.ne02 (c2' rfl) e).elim
        · rcases c3 q lq with rfl | rfl | rfl
          · exact (L.ne01 e.symm).elim
          · rfl
          · exact (L.ne (c2' rfl) e).elim
        · rcases c3 q lq with rfl | rfl | rfl
          · exact (L.ne02 (c2 rfl) e.symm).elim
          · exact (L.ne (c2 rfl) e.symm).elim
          · rfl
end
theorem putK_new {kvs : List (Key × V)} {k : Key} {v : V} (h : ∀ kv ∈ kvs, kv.1 ≠ k) : putK kvs k v = kvs ++ [(k, v)] := by
  unfold putK
  rw [if_neg]
  intro z
  rw [List.any_eq_true] at z
  obtain ⟨kv, m, e⟩ := z
  exact h kv m (of_decide_eq_true e)
section
variable {P : Program} {w : World} {K : PySem.W.Frag} {mg : Str → Option Value} {base : Heap} {c : CAd} {eN : Addr}
def spPut (K : PySem.W.Frag) (c : CAd) : Sp := fun vs H Q _ => ∃ (d : Doc) (lay : Lay) (l : Layer) (ly : Nat → Addr), vs = [.ref (lay 0 0), .ref (ly 0)] ∧ DocH K c H d lay ∧ WF d ∧ l.id = d.next ∧ Par d l.parent ∧ d.layers.length < 12 ∧ LayAt K c H l ly ∧ (∀ p, p ≤ 2 → ¬ Foot d lay (ly p)) ∧
  ∀ H', DocH K c H' (pushD d l) (layPut lay d.next ly) → (∀ a u, H a = some u → ¬ Foot d lay a → H' a = some u) → Q (.int (d.next : Int)) H'
abbrev s_Document_put_highest : Stmt := inClass (topS 13) 8
abbrev N_Document_put_highest : List Str := ["self", "layer", "number"]
abbrev P_Document_put_highest : List Str := ["self", "layer"]
theorem sc_Document_put_highest : FnScope N_Document_put_highest P_Document_put_highest (defScope s_Document_put_highest) := ⟨rfl, rfl, rfl, by decide +kernel, rfl, by decide +kernel, by decide +kernel⟩
theorem d_put_highest (T : TC K mg c eN) (M_members_of : MetAt P w K mg base (L2.CX P w) 40 c.D "members_of" P_Document_members_of (spMem c eN)) (F : TopMet K c.D "put_highest" "Document.put_highest" s_Document_put_highest P_Document_put_highest) :
    MetAt P w K mg base CX0 41 c.D "put_highest" P_Document_put_highest (spPut K c) := by
  refine F.ok sc_Document_put_highest (fun vs H Q E h => ?_) (fun fa cdv A outer s H vs Q E hr h => ?_)
  · obtain ⟨_, _, _, _, rfl, _⟩ := h; rfl
  obtain ⟨d, lay, l, ly, rfl, D, W, hi, hp, len, L, nf, q⟩ := h
  have nd := sc_Document_put_highest.nd
  refine ⟨_, (pss_cons (ps_set (i := 2) nd rfl (Or.inl rfl) (pfld (K := K) (pv 0) rfl)) (pss_cons (ps_expr (pe_bm PySem.F.plainAttrs_list PySem.F.slot_list_append PySem.F.type_list_append mt_append (pm (pv 0) T.cD M_members_of (hr.mono (by omega)) passL (pa_cons (pfld (K := K) (pv 1) rfl) pa_nil)) (pa_cons (pv 2) pa_nil))) (pss_cons (ps_dput (hu_of hr) (pfld (K := K) (pv 0) rfl) (pv 2) (pv 1) rfl) (pss_cons (ps_fld (pv 0) (pe_op op_add (pv 2) pe_int) rfl) (pss_one (ps_ret (pv 2))))))), ?_⟩
  obtain ⟨dx, hd⟩ := D.s.i.doc
  obtain ⟨dl, il⟩ := L.ins
  have tk : d.takes l.parent = true := (takes_iff W.ids _).mpr hp
  have hm := D.s.m l.parent hp
  obtain ⟨kvs, hk, pk⟩ := D.s.i.dict
  have n1 : lay 0 0 ≠ lay l.parent 2 := fun e => by have := (D.inj _ _ _ _ (used0 (by decide)) (usedP hp) e).2; omega
  have n2 : lay 0 1 ≠ lay l.parent 2 := fun e => by have := (D.inj _ _ _ _ (used0 (by decide)) (usedP hp) e).2; omega
  have n3 : lay 0 0 ≠ lay 0 1 := fun e => by have := (D.inj _ _ _ _ (used0 (by decide)) (used0 (by decide)) e).2; omega
  have kl : (kidIds d l.parent).length ≤ d.layers.length := by unfold kidIds; rw [List.length_map]; exact kids_len _ _
  refine ⟨_, rfl, _, _, _, _, _, rfl, hd, T.cD, T.nD _ (by decide), rfl, ?_⟩
  refine ⟨_, rfl, lay 0 0, dx, _, rfl, hd, rfl, _, rfl, _, _, _, _, _, rfl, il, T.cO _, T.nO _ _ (inBase (by decide) _), rfl, d, lay, l.parent, rfl, D.s.i, W.ids, (fun z => by rw [tk] at z; cases z), fun _ => ?_⟩
  refine ⟨.inl ⟨rfl, _, .of hm⟩, _, rfl, lay l.parent 2, _, _, rfl, rfl, hm, ?_, ?_⟩
  · rw [natV_length]
    have : (12 : Nat) ≤ sizeLine := by decide
    omega
  have hd2 : upd H (lay l.parent 2) (.lst (natV (kidIds d l.parent) ++ [.int (d.next : Int)])) (lay 0 0) = some (.ins c.D dx (docF d lay)) := by rw [upd_ne n1]; exact hd
  have hk2 : upd H (lay l.parent 2) (.lst (natV (kidIds d l.parent) ++ [.int (d.next : Int)])) (lay 0 1) = some (.dK kvs) := by rw [upd_ne n2]; exact hk
  have kvl : kvs.length < sizeLine := by
    have := pk.length_eq
    rw [List.length_map] at this
    have : (12 : Nat) ≤ sizeLine := by decide
    omega
  refine ⟨_, rfl, _, rfl, _, _, _, _, _, rfl, hd2, T.cD, T.nD _ (by decide), rfl, _, rfl, lay 0 1, _, rfl, DPut.k (k := Sum.inl (d.next : Int)) hk2 kvl, ?_⟩
  rw [putK_new fun kv hkv e => by
    have := pk.mem_iff.mp hkv
    obtain ⟨m, hm2, rfl⟩ := List.mem_map.mp this
    have h1 : ((m.id : Int)) = (d.next : Int) := Sum.inl.inj e
    have h2 := W.nx m hm2
    omega]
  have hd3 : upd (upd H (lay l.parent 2) (.lst (natV (kidIds d l.parent) ++ [.int (d.next : Int)]))) (lay 0 1) (.dK (kvs ++ [(Sum.inl (d.next : Int), V.ref (ly 0))])) (lay 0 0) = some (.ins c.D dx (docF d lay)) := by rw [upd_ne n3]; exact hd2
  refine ⟨_, rfl, _, _, rfl, rfl, _, rfl, lay 0 0, _, dx, _, rfl, hd3, T.cD, T.nD _ (by decide), (by show 5 < 1000; decide), _, rfl, ?_⟩
  have k0 : Kp [(l.parent, 2), (0, 1), (0, 0)] lay H H := Kp.refl
  have k3 := ((k0.upd (i := l.parent) (p := 2) (o := .lst (natV (kidIds d l.parent) ++ [.int (d.next : Int)])) (by simp)).upd (i := 0) (p := 1) (o := .dK (kvs ++ [(Sum.inl (d.next : Int), V.ref (ly 0))])) (by simp)).upd (i := 0) (p := 0) (o := .ins c.D dx (putF "next_number" (.int ((d.next : Int) + 1)) (docF d lay))) (by simp)
  have us : ∀ x ∈ [(l.parent, 2), (0, 1), (0, 0)], Used d x.1 x.2 := fun x hx => by
    simp only [List.mem_cons, List.not_mem_nil, or_false] at hx
    rcases hx with rfl | rfl | rfl
    · exact usedP hp
    · exact used0 (by decide)
    · exact used0 (by decide)
  refine q _ (push_doc D W hi hp L nf k3 ?_ ⟨kvs ++ [(Sum.inl (d.next : Int), V.ref (ly 0))], ?_, ?_⟩ ⟨dx, ?_⟩) fun a u h n => k3.away us h n
  · rw [upd_ne n1.symm, upd_ne n2.symm, upd_same, hi]
  · rw [upd_ne n3.symm, upd_same]
  · rw [hi]
    exact pk.append_right _
  · rw [upd_same]
    rfl
end
end LH

set_option Elab.async false
set_option linter.all false
set_option maxRecDepth 100000
set_option maxHeartbeats 400000
namespace LH
open PySem PySem.Spec PyProof.Rows L2
open Ie02 (Frac Px Colour Doc Layer)
open LM
def intsN (a : List Nat) : List Int := a.map fun n : Nat => (n : Int)
theorem rem_nat {x : Nat} : ∀ {a : List Nat}, a.Nodup → x ∈ a → ∃ j, (intsN a)[j]? = some (x : Int) ∧ (∀ m : Nat, m < j → (intsN a)[m]? ≠ some (x : Int)) ∧ ((intsN a).eraseIdx j).map V.int = natV (a.filter fun y => y != x)
  | [], _, h => by cases h
  | y :: r, nd, h => by
    rw [List.nodup_cons] at nd
    by_cases e : y = x
    · subst e
      refine ⟨0, rfl, fun m hm => absurd hm (Nat.not_lt_zero m), ?_⟩
      rw [List.filter_cons_of_neg (by simp), List.filter_eq_self.mpr fun z hz => by
        rw [bne_iff_ne]
        intro e
        exact nd.1 (by rw [← e]; exact hz)]
      exact (natV_eq r).symm
    · have hx : x ∈ r := (List.mem_cons.mp h).resolve_left (fun z => e z.symm)
      obtain ⟨j, h1, h2, h3⟩ := rem_nat nd.2 hx
      refine ⟨j + 1, h1, fun m hm => ?_, ?_⟩
      · cases m with
        | zero =>
          intro z
          have : (y : Int) = x := Option.some.inj z
          omega
        | succ m => exact h2 m (by omega)
      · rw [List.filter_cons_of_pos (by simpa using e)]
        show V.int (y : Int) :: ((intsN r).eraseIdx j).map V.int = _
        rw [h3]
        rfl
theorem ins_nat (a : List Nat) (k x : Nat) : (natV a).take k ++ [V.int (x : Int)] ++ (natV a).drop k = natV (insAt k x a) := by
  unfold natV insAt
  rw [List.map_append, List.map_append, List.map_take, List.map_drop]
  rfl
section
variable {S : List (Nat × Nat)} {lay : Lay} {H H' : Hp} {d : Doc} {K : PySem.W.Frag} {c : CAd}
/-- the instances and the dict, after lists changed -/
theorem DocI.lists (D : DocI c H d lay) (J : Inj d lay) (us : ∀ x ∈ S, Used d x.1 x.2) (k : Kp S lay H H') (h2 : ∀ x ∈ S, x.2 = 2) : DocI c H' d lay := by
  have n : ∀ {i p : Nat}, p ≠ 2 → (i, p) ∉ S := fun h m => h (h2 _ m)
  obtain ⟨⟨dx, h1⟩, ⟨kvs, hk, p⟩, h3⟩ := D
  exact ⟨⟨dx, k.at_ J us (used0 (by decide)) (n (by decide)) h1⟩, ⟨kvs, k.at_ J us (used0 (by decide)) (n (by decide)) hk, p⟩, fun l hl => let ⟨dl, h⟩ := h3 l hl; ⟨dl, k.at_ J us (usedL hl (by decide)) (n (by decide)) h⟩⟩
theorem filter_absent {d : Doc} (I : Ids d) {l : Layer} (hl : l ∈ d.layers) {q : Nat} (h : q ≠ l.parent) : (kidIds d q).filter (fun x => x != l.id) = kidIds d q := by
  refine List.filter_eq_self.mpr fun x hx => ?_
  rw [bne_iff_ne]
  intro e
  obtain ⟨m, hm, hp, hi⟩ := kidIds_mem.mp hx
  have := mem_unique I hm hl (hi.trans e)
  subst this
  exact h hp.symm
theorem move_used {l : Layer} (hl : l ∈ d.layers) {p k i j : Nat} : Used (moveD d l p k) i j → Used d i j := by
  rintro (h | ⟨m, hm, rfl, r⟩)
  · exact .inl h
  · rcases move_mem.mp hm with rfl | ⟨hm, _⟩
    · exact .inr ⟨l, hl, rfl, r⟩
    · exact .inr ⟨m, hm, rfl, r⟩
theorem move_doc (D : DocH K c H d lay) (I : Ids d) {l : Layer} (hl : l ∈ d.layers) {p k : Nat} (hp : Par d p) (hq : Par d l.parent) (kp : Kp [(l.parent, 2), (p, 2), (l.id, 0)] lay H H')
    (h1 : ∀ q, q = l.parent ∨ q = p → H' (lay q 2) = some (.lst (natV (kidIds (moveD d l p k) q)))) (h2 : ∃ dx, H' (lay l.id 0) = some (.ins (c.of l.kind) dx (flds { l with parent := p } (lay l.id)))) : DocH K c H' (moveD d l p k) lay := by
  have us : ∀ x ∈ [(l.parent, 2), (p, 2), (l.id, 0)], Used d x.1 x.2 := fun x hx => by
    simp only [List.mem_cons, List.not_mem_nil, or_false] at hx
    rcases hx with rfl | rfl | rfl
    · exact usedP hq
    · exact usedP hp
    · exact usedL hl (Nat.zero_le _)
  have nt := D.s.noTs us
  have l0 : l.id ≠ 0 := by have := I.2 l hl; omega
  refine ⟨⟨⟨?_, ?_, fun m hm => ?_⟩, fun q h => ?_, fun m hm => ?_, fun m hm hk => ?_⟩, fun i p j q ui uj e => D.inj _ _ _ _ (move_used hl ui) (move_used hl uj) e⟩
  · obtain ⟨dx, h⟩ := D.s.i.doc
    exact ⟨dx, kp.at_ D.inj us (used0 (by decide)) (by simpa using l0.symm) h⟩
  · obtain ⟨kvs, h, pk⟩ := D.s.i.dict
    refine ⟨kvs, kp.at_ D.inj us (used0 (by decide)) (by simp) h, pk.trans ?_⟩
    have e : ∀ ls : List Layer, ls.map (ent lay) = (ls.map (·.id)).map fun n : Nat => ((Sum.inl (n : Int), V.ref (lay n 0)) : Key × V) := fun ls => by
      rw [List.map_map]
      rfl
    rw [e, e]
    exact ((move_ids I hl p k).map _).symm
  · rcases move_mem.mp hm with rfl | ⟨hm, ne⟩
    · exact h2
    · obtain ⟨dx, h⟩ := D.s.i.ins m hm
      exact ⟨dx, kp.at_ D.inj us (usedL hm (by decide)) (by simpa using ne) h⟩
  · have h := (move_par I hl).mp h
    by_cases c0 : q = l.parent ∨ q = p
    · exact h1 q c0
    · have n1 : q ≠ l.parent := fun e => c0 (.inl e)
      have n2 : q ≠ p := fun e => c0 (.inr e)
      rw [move_kidIds, if_neg n2, filter_absent I hl n1]
      exact kp.at_ D.inj us (usedP h) (by simp; exact ⟨n1, n2⟩) (D.s.m q h)
  · rcases move_mem.mp hm with rfl | ⟨hm, ne⟩
    · exact kp.at_ D.inj us (usedL hl (Nat.le_refl _)) (by simp) (D.s.k l hl)
    · exact kp.at_ D.inj us (usedL hm (Nat.le_refl _)) (by simp) (D.s.k m hm)
  · have nog : ∀ m ∈ d.layers, m.kind = .picture → ∀ r, Par d r → m.id ≠ r := fun m hm hk r hr e => by
      rcases hr with rfl | ⟨m2, hm2, e2, g⟩
      · have := I.2 m hm
        omega
      · have := mem_unique I hm hm2 (e.trans e2.symm)
        subst this
        rw [hk] at g
        cases g
    have go : ∀ m ∈ d.layers, m.kind = .picture → ∃ xs, H' (lay m.id 2) = some (.lst xs) ∧ Paired (CellAt K H') xs m.cells := fun m hm hk => by
      obtain ⟨xs, h, cs⟩ := D.s.p m hm hk
      refine ⟨xs, kp.at_ D.inj us (usedC hm (by rw [hk]; rfl)) ?_ h, L2.Paired.mapP cs fun _ _ x => kp.cell nt x⟩
      simp only [List.mem_cons, Prod.mk.injEq, List.not_mem_nil, or_false, and_true, not_or]
      exact ⟨nog m hm hk _ hq, nog m hm hk _ hp, by omega⟩
    rcases move_mem.mp hm with rfl | ⟨hm, ne⟩
    · exact go l hl hk
    · exact go m hm hk
theorem drop_used {f : Nat → Nat} (I : Ids d) (L : Lev d f) {n i j : Nat} : Used (dropD d n) i j → Used d i j := by
  rintro (h | ⟨m, hm, rfl, r⟩)
  · exact .inl h
  · exact .inr ⟨m, ((drop_mem I L).mp hm).1, rfl, r⟩
theorem drop_doc (D : DocH K c H d lay) {f : Nat → Nat} (I : Ids d) (L : Lev d f) {l : Layer} (hl : l ∈ d.layers) (hq : Par d l.parent) (kp : Kp [(l.parent, 2), (0, 1)] lay H H')
    (h1 : H' (lay l.parent 2) = some (.lst (natV ((kidIds d l.parent).filter fun x => x != l.id)))) (h2 : ∃ kvs, H' (lay 0 1) = some (.dK kvs) ∧ kvs.Perm ((dropD d l.id).layers.map (ent lay))) : DocH K c H' (dropD d l.id) lay := by
  have us : ∀ x ∈ [(l.parent, 2), (0, 1)], Used d x.1 x.2 := fun x hx => by
    simp only [List.mem_cons, List.not_mem_nil, or_false] at hx
    rcases hx with rfl | rfl
    · exact usedP hq
    · exact used0 (by decide)
  have nt := D.s.noTs us
  have fl := L.pos hl
  refine ⟨⟨⟨?_, h2, fun m hm => ?_⟩, fun q h => ?_, fun m hm => ?_, fun m hm hk => ?_⟩, fun i p j q ui uj e => D.inj _ _ _ _ (drop_used I L ui) (drop_used I L uj) e⟩
  · obtain ⟨dx, h⟩ := D.s.i.doc
    exact ⟨dx, kp.at_ D.inj us (used0 (by decide)) (by simp) h⟩
  · have hm := ((drop_mem I L).mp hm).1
    obtain ⟨dx, h⟩ := D.s.i.ins m hm
    exact ⟨dx, kp.at_ D.inj us (usedL hm (by decide)) (by simp) h⟩
  · obtain ⟨hq2, nq⟩ := drop_par' I L fl h
    rw [drop_kidIds I L nq]
    by_cases c0 : q = l.parent
    · subst c0
      exact h1
    · rw [filter_absent I hl c0]
      exact kp.at_ D.inj us (usedP hq2) (by simp; exact c0) (D.s.m q hq2)
  · have hm := ((drop_mem I L).mp hm).1
    have := I.2 m hm
    exact kp.at_ D.inj us (usedL hm (Nat.le_refl _)) (by simp; omega) (D.s.k m hm)
  · have hm := ((drop_mem I L).mp hm).1
    obtain ⟨xs, h, cs⟩ := D.s.p m hm hk
    refine ⟨xs, kp.at_ D.inj us (usedC hm (by rw [hk]; rfl)) ?_ h, L2.Paired.mapP cs fun _ _ x => kp.cell nt x⟩
    simp only [List.mem_cons, Prod.mk.injEq, List.not_mem_nil, or_false, and_true, not_or]
    refine ⟨fun e => ?_, by omega⟩
    rcases hq with z | ⟨m2, hm2, e2, g⟩
    · have := I.2 m hm
      omega
    · have := mem_unique I hm hm2 (e.trans e2.symm)
      subst this
      rw [hk] at g
      cases g
end
/-! entries popped -/
def popAll (kvs : List (Key × V)) (ns : List Nat) : List (Key × V) := ns.foldl (fun (s : List (Key × V)) (n : Nat) => dropK s (Sum.inl (n : Int))) kvs
theorem popAll_more (kvs : List (Key × V)) (ns : List Nat) (n : Nat) : popAll kvs (ns ++ [n]) = dropK (popAll kvs ns) (Sum.inl (n : Int)) := by
  unfold popAll
  rw [List.foldl_append]
  rfl
theorem popAll_mem : ∀ (ns : List Nat) (kvs : List (Key × V)) (kv : Key × V), kv ∈ popAll kvs ns ↔ kv ∈ kvs ∧ ∀ n ∈ ns, kv.1 ≠ Sum.inl (n : Int)
  | [], kvs, kv => ⟨fun h => ⟨h, (fun n h => by cases h)⟩, fun h => h.1⟩
  | m :: ns, kvs, kv => by
    show kv ∈ popAll (dropK kvs (Sum.inl (m : Int))) ns ↔ _
    rw [popAll_mem ns]
    unfold dropK
    rw [List.mem_filter]
    simp only [decide_eq_true_eq, List.mem_cons]
    constructor
    · rintro ⟨⟨a, b⟩, e⟩
      exact ⟨a, fun n h => by
        rcases h with rfl | h
        · exact b
        · exact e n h⟩
    · rintro ⟨a, b⟩
      exact ⟨⟨a, b m (.inl rfl)⟩, fun n h => b n (.inr h)⟩
theorem popAll_filter : ∀ (ns : List Nat) (kvs : List (Key × V)), popAll kvs ns = kvs.filter fun kv => ns.all fun n => decide (kv.1 ≠ Sum.inl (n : Int))
  | [], kvs => by
    show kvs = _
    exact (List.filter_eq_self.mpr fun _ _ => rfl).symm
  | m :: ns, kvs => by
    show popAll (dropK kvs (Sum.inl (m : Int))) ns = _
    rw [popAll_filter ns]
    unfold dropK
    rw [List.filter_filter]
    congr 1
    funext kv
    rw [List.all_cons, Bool.and_comm]
theorem pop_perm {d : Doc} {f : Nat → Nat} {lay : Lay} (I : Ids d) (L : Lev d f) {n : Nat} {found : List Nat} {kvs : List (Key × V)} (pf : found.Perm (sub d n)) (pk : kvs.Perm (d.layers.map (ent lay))) : (popAll kvs found).Perm ((dropD d n).layers.map (ent lay)) := by
  rw [popAll_filter]
  refine (pk.filter _).trans ?_
  rw [List.filter_map]
  have : d.layers.filter ((fun kv : Key × V => found.all fun n => decide (kv.1 ≠ Sum.inl (n : Int))) ∘ ent lay) = (dropD d n).layers := by
    refine List.filter_congr fun m hm => ?_
    have h1 : (found.all fun x => decide ((ent lay m).1 ≠ Sum.inl (x : Int))) = true ↔ m.id ∉ found := by
      rw [List.all_eq_true]
      constructor
      · intro h z
        have := of_decide_eq_true (h m.id z)
        exact this rfl
      · intro h x hx
        refine decide_eq_true fun e => h ?_
        have : ((m.id : Int)) = (x : Int) := Sum.inl.inj e
        have : m.id = x := by omega
        rw [this]
        exact hx
    have h2 : m.id ∈ found ↔ d.within n (Ie02.LAYERS + 1) m.id = true := by
      rw [pf.mem_iff, sub_mem I L]
      have w := within_iff I L n (Ie02.LAYERS + 1) m.id (by have := (L.up m hm).2.2; show f m.id < 13; omega) (.inr ⟨m, hm, rfl⟩)
      exact ⟨fun h => w.mpr h.2, fun h => ⟨⟨m, hm, rfl⟩, w.mp h⟩⟩
    show (found.all fun x => decide ((ent lay m).1 ≠ Sum.inl (x : Int))) = _
    cases e : d.within n (Ie02.LAYERS + 1) m.id with
    | true =>
      rw [e] at h2
      have : ¬ (found.all fun x => decide ((ent lay m).1 ≠ Sum.inl (x : Int))) = true := fun z => h1.mp z (h2.mpr rfl)
      simpa using this
    | false =>
      rw [e] at h2
      exact h1.mpr fun z => by cases h2.mp z
  rw [this]
theorem flds_len (l : Layer) (ly : Nat → Addr) : (flds l ly).length < 1000 := by
  unfold flds restF baseF
  cases l.kind <;> (rw [List.length_append]; simp only [List.length_cons, List.length_nil]; omega)
theorem valV_some {kvs : List (Key × V)} {k : Key} {v : V} (h : (k, v) ∈ kvs) : ∃ u, valV kvs k = some u := by
  cases e : valV kvs k with
  | some u => exact ⟨u, rfl⟩
  | none => exact absurd h (valV_none e v)
section
variable {P : Program} {w : World} {K : PySem.W.Frag} {mg : Str → Option Value} {base : Heap} {c : CAd} {eN : Addr}
def spInto (K : PySem.W.Frag) (c : CAd) : Sp := fun vs H Q _ => ∃ (d : Doc) (lay : Lay) (l : Layer) (p k : Nat), vs = [.ref (lay 0 0), .int (l.id : Int), .int (p : Int), .int (k : Int)] ∧ DocH K c H d lay ∧ WF d ∧ l ∈ d.layers ∧ Par d p ∧ k < 2 ^ 32 ∧
  ∀ H', DocH K c H' (moveD d l p k) lay → (∀ a u, H a = some u → ¬ Foot d lay a → H' a = some u) → Q .non H'
abbrev s_Document_put_into : Stmt := inClass (topS 13) 9
abbrev N_Document_put_into : List Str := ["self", "number", "parent", "position", "layer"]
abbrev P_Document_put_into : List Str := ["self", "number", "parent", "position"]
theorem sc_Document_put_into : FnScope N_Document_put_into P_Document_put_into (defScope s_Document_put_into) := ⟨rfl, rfl, rfl, by decide +kernel, rfl, by decide +kernel, by decide +kernel⟩
theorem d_put_into (T : TC K mg c eN) (M_members_of : MetAt P w K mg base (L2.CX P w) 40 c.D "members_of" P_Document_members_of (spMem c eN)) (F : TopMet K c.D "put_into" "Document.put_into" s_Document_put_into P_Document_put_into) :
    MetAt P w K mg base CX0 41 c.D "put_into" P_Document_put_into (spInto K c) := by
  refine F.ok sc_Document_put_into (fun vs H Q E h => ?_) (fun fa cdv A outer s H vs Q E hr h => ?_)
  · obtain ⟨_, _, _, _, _, rfl, _⟩ := h; rfl
  obtain ⟨d, lay, l, p, k, rfl, D, W, hl, hp, k32, q⟩ := h
  have nd := sc_Document_put_into.nd
  refine ⟨_, (pss_cons (ps_set (i := 4) nd rfl (Or.inl rfl) (pe_dget (hu_of hr) (pfld (K := K) (pv 0) rfl) (pv 1) (fun _ _ => rfl))) (pss_cons (ps_expr (pe_bm PySem.F.plainAttrs_list PySem.F.slot_list_remove PySem.F.type_list_remove mt_remove (pm (pv 0) T.cD M_members_of (hr.mono (by omega)) passL (pa_cons (pfld (K := K) (pv 4) rfl) pa_nil)) (pa_cons (pv 1) pa_nil))) (pss_cons (ps_expr (pe_bm PySem.F.plainAttrs_list PySem.F.slot_list_insert PySem.F.type_list_insert mt_insert (pm (pv 0) T.cD M_members_of (hr.mono (by omega)) passL (pa_cons (pv 2) pa_nil)) (pa_cons (pv 3) (pa_cons (pv 1) pa_nil)))) (pss_one (ps_fld (pv 4) (pv 2) rfl))))), ?_⟩
  have I := W.ids
  obtain ⟨f, L⟩ := W.lev
  have hq : Par d l.parent := (L.up l hl).1
  obtain ⟨dx, hd⟩ := D.s.i.doc
  obtain ⟨dl, il⟩ := D.s.i.ins l hl
  have tq : d.takes l.parent = true := (takes_iff I _).mpr hq
  have tp : d.takes p = true := (takes_iff I _).mpr hp
  have hm := D.s.m l.parent hq
  have us : ∀ x ∈ [(l.parent, 2), (p, 2), (l.id, 0)], Used d x.1 x.2 := fun x hx => by
    simp only [List.mem_cons, List.not_mem_nil, or_false] at hx
    rcases hx with rfl | rfl | rfl
    · exact usedP hq
    · exact usedP hp
    · exact usedL hl (Nat.zero_le _)
  have us1 : ∀ x ∈ [(l.parent, 2)], Used d x.1 x.2 := fun x hx => by
    rw [List.mem_singleton.mp hx]
    exact usedP hq
  refine ⟨_, rfl, _, _, _, _, _, rfl, hd, T.cD, T.nD _ (by decide), rfl, _, rfl, _, .ref (lay l.id 0), rfl, look D.s.i I hl, ?_⟩
  refine ⟨_, rfl, lay 0 0, dx, _, rfl, hd, rfl, _, rfl, _, _, _, _, _, rfl, il, T.cO _, T.nO _ _ (inBase (by decide) _), rfl, d, lay, l.parent, rfl, D.s.i, I, (fun z => by rw [tq] at z; cases z), fun _ => ?_⟩
  obtain ⟨j, j1, j2, j3⟩ := rem_nat (kidIds_nodup I l.parent) (kidIds_mem.mpr ⟨l, hl, rfl, rfl⟩)
  have hm2 := hm
  rw [natV_eq] at hm2
  refine ⟨.inl ⟨rfl, _, .of hm⟩, _, rfl, lay l.parent 2, intsN (kidIds d l.parent), (l.id : Int), j, rfl, rfl, hm2, j1, j2, ?_⟩
  rw [j3]
  have k1 : Kp [(l.parent, 2)] lay H (upd H (lay l.parent 2) (.lst (natV ((kidIds d l.parent).filter fun y => y != l.id)))) := Kp.refl.upd (by simp)
  have K1 : Kp [(l.parent, 2), (p, 2), (l.id, 0)] lay H (upd H (lay l.parent 2) (.lst (natV ((kidIds d l.parent).filter fun y => y != l.id)))) := Kp.refl.upd (by simp)
  have hs : upd H (lay l.parent 2) (.lst (natV ((kidIds d l.parent).filter fun y => y != l.id))) (lay l.parent 2) = some (.lst (natV ((kidIds d l.parent).filter fun y => y != l.id))) := upd_same
  generalize upd H (lay l.parent 2) (.lst (natV ((kidIds d l.parent).filter fun y => y != l.id))) = H1 at k1 K1 hs ⊢
  have D1 := D.s.i.lists D.inj us1 k1 fun x hx => by rw [List.mem_singleton.mp hx]
  obtain ⟨dx1, hd1⟩ := D1.doc
  have hP : H1 (lay p 2) = some (.lst (natV ((kidIds d p).filter fun y => y != l.id))) := by
    by_cases e : p = l.parent
    · rw [e]; exact hs
    · rw [filter_absent I hl e]
      exact k1.at_ D.inj us1 (usedP hp) (by simpa using e) (D.s.m p hp)
  refine ⟨_, rfl, lay 0 0, dx1, _, rfl, hd1, rfl, _, rfl, d, lay, p, rfl, D1, I, (fun z => by rw [tp] at z; cases z), fun _ => ?_⟩
  have kl : (kidIds d p).length ≤ d.layers.length := by unfold kidIds; rw [List.length_map]; exact kids_len _ _
  have len := W.len
  have p32 : (2 : Nat) ^ 32 = 4294967296 := by decide
  rw [p32] at k32
  refine ⟨.inl ⟨rfl, _, .of hP⟩, _, rfl, _, rfl, lay p 2, _, (k : Int), .int (l.id : Int), rfl, rfl, hP, ?_, by omega, by omega, ?_⟩
  · rw [natV_length]
    have h1 := List.length_filter_le (fun y => y != l.id) (kidIds d p)
    have : (12 : Nat) < sizeLine := by decide
    omega
  rw [Int.toNat_natCast, ins_nat]
  have n02 : lay l.id 0 ≠ lay p 2 := fun e => by have := (D.inj _ _ _ _ (usedL hl (Nat.zero_le _)) (usedP hp) e).2; omega
  have n02q : lay l.id 0 ≠ lay l.parent 2 := fun e => by have := (D.inj _ _ _ _ (usedL hl (Nat.zero_le _)) (usedP hq) e).2; omega
  obtain ⟨dl1, il1⟩ := D1.ins l hl
  have K2 := K1.upd (i := p) (p := 2) (o := .lst (natV (insAt k l.id ((kidIds d p).filter fun y => y != l.id)))) (by simp)
  refine ⟨_, rfl, _, rfl, lay l.id 0, _, dl1, _, rfl, (by rw [upd_ne n02]; exact il1), T.cO _, T.nO _ _ (inBase (by decide) _), ?_, ?_⟩
  · exact flds_len l _
  have e1 : putF "parent" (V.int (p : Int)) (flds l (lay l.id)) = flds { l with parent := p } (lay l.id) := rfl
  rw [e1]
  have K3 := K2.upd (i := l.id) (p := 0) (o := .ins (c.of l.kind) dl1 (flds { l with parent := p } (lay l.id))) (by simp)
  refine q _ (move_doc D I hl hp hq K3 (fun z hz => ?_) ⟨dl1, upd_same⟩) fun a u h n => K3.away us h n
  rw [move_kidIds]
  by_cases e : z = p
  · subst e
    rw [if_pos rfl, upd_ne n02.symm, upd_same]
  · have e2 := hz.resolve_right e
    subst e2
    have n22 : lay l.parent 2 ≠ lay p 2 := fun e3 => e (D.inj _ _ _ _ (usedP hq) (usedP hp) e3).1
    rw [if_neg e, upd_ne n02q.symm, upd_ne n22]
    exact hs
def spTake (K : PySem.W.Frag) (c : CAd) : Sp := fun vs H Q _ => ∃ (d : Doc) (lay : Lay) (l : Layer), vs = [.ref (lay 0 0), .int (l.id : Int)] ∧ DocH K c H d lay ∧ WF d ∧ l ∈ d.layers ∧
  ∀ H', DocH K c H' (dropD d l.id) lay → (∀ a u, H a = some u → ¬ Foot d lay a → H' a = some u) → (∀ a, H' a = none → H a = none) → Q (.int ((d.layers.length - (dropD d l.id).layers.length : Nat) : Int)) H'
abbrev s_Document_take_out : Stmt := inClass (topS 13) 10
abbrev N_Document_take_out : List Str := ["self", "number", "gone", "one"]
abbrev P_Document_take_out : List Str := ["self", "number"]
theorem sc_Document_take_out : FnScope N_Document_take_out P_Document_take_out (defScope s_Document_take_out) := ⟨rfl, rfl, rfl, by decide +kernel, rfl, by decide +kernel, by decide +kernel⟩
theorem d_take_out (T : TC K mg c eN) (M_members_of : MetAt P w K mg base (L2.CX P w) 40 c.D "members_of" P_Document_members_of (spMem c eN)) (M_with_inner : MetAt P w K mg base CX0 38 c.D "with_inner" P_Document_with_inner (spInner c))
    (F : TopMet K c.D "take_out" "Document.take_out" s_Document_take_out P_Document_take_out) : MetAt P w K mg base CX0 41 c.D "take_out" P_Document_take_out (spTake K c) := by
  refine F.ok sc_Document_take_out (fun vs H Q E h => ?_) (fun fa cdv A outer s H vs Q E hr h => ?_)
  · obtain ⟨_, _, _, rfl, _⟩ := h; rfl
  obtain ⟨d, lay, l, rfl, D, W, hl, q⟩ := h
  have nd := sc_Document_take_out.nd
  refine ⟨_, (pss_cons (ps_set (i := 2) nd rfl (Or.inl rfl) (pm (pv 0) T.cD M_with_inner (hr.mono (by omega)) pass0 (pa_cons (pv 1) pa_nil))) (pss_cons (ps_expr (pe_bm PySem.F.plainAttrs_list PySem.F.slot_list_remove PySem.F.type_list_remove mt_remove (pm (pv 0) T.cD M_members_of (hr.mono (by omega)) passL (pa_cons (pfld (K := K) (pe_dget (hu_of hr) (pfld (K := K) (pv 0) rfl) (pv 1) (fun _ _ => rfl)) rfl) pa_nil)) (pa_cons (pv 1) pa_nil))) (pss_cons (ps_for PassesOwn.never rfl (pi_list (pv 2)) (pg_name (i := 3) nd rfl (Or.inl rfl)) (pss_one (ps_expr (pe_dpop1 (pfld (K := K) (pv 0) rfl) (pv 3) ⟨rfl, rfl, rfl, rfl⟩)))) (pss_one (ps_ret (pe_callB call_len_seq (by rfl) T.n_len (by decide +kernel) (pa_cons (pv 2) pa_nil))))))), ?_⟩
  have I := W.ids
  obtain ⟨f, L⟩ := W.lev
  have hq : Par d l.parent := (L.up l hl).1
  have tq : d.takes l.parent = true := (takes_iff I _).mpr hq
  obtain ⟨dx, hd⟩ := D.s.i.doc
  refine ⟨_, rfl, lay 0 0, dx, _, rfl, hd, rfl, _, rfl, d, lay, f, l.id, rfl, D.s.i, D.s.m, I, L, W.len, ⟨l, hl, rfl⟩, fun D0 H1 found hD0 s1 h1 pf => ?_⟩
  have D1 := D.mono s1
  obtain ⟨dx1, hd1⟩ := D1.s.i.doc
  obtain ⟨dl, il⟩ := D1.s.i.ins l hl
  have hm := D1.s.m l.parent hq
  obtain ⟨j, j1, j2, j3⟩ := rem_nat (kidIds_nodup I l.parent) (kidIds_mem.mpr ⟨l, hl, rfl, rfl⟩)
  have hm2 := hm
  rw [natV_eq] at hm2
  have nD : ∀ {i p : Nat}, Used d i p → lay i p ≠ D0 := fun hu e => by
    obtain ⟨u, h, _⟩ := D.s.noT hu
    rw [e, hD0] at h
    cases h
  have us : ∀ x ∈ [(l.parent, 2), (0, 1)], Used d x.1 x.2 := fun x hx => by
    simp only [List.mem_cons, List.not_mem_nil, or_false] at hx
    rcases hx with rfl | rfl
    · exact usedP hq
    · exact used0 (by decide)
  refine ⟨_, rfl, lay 0 0, dx1, _, rfl, hd1, rfl, _, rfl, _, _, _, _, _, rfl, hd1, T.cD, T.nD _ (by decide), rfl, _, rfl, _, .ref (lay l.id 0), rfl, look D1.s.i I hl, _, _, _, _, _, rfl, il, T.cO _, T.nO _ _ (inBase (by decide) _), rfl, d, lay, l.parent, rfl, D1.s.i, I, (fun z => by rw [tq] at z; cases z), fun _ => ?_⟩
  refine ⟨.inl ⟨rfl, _, .of hm⟩, _, rfl, lay l.parent 2, intsN (kidIds d l.parent), (l.id : Int), j, rfl, rfl, hm2, j1, j2, ?_⟩
  rw [j3]
  have K1 : Kp [(l.parent, 2), (0, 1)] lay H1 (upd H1 (lay l.parent 2) (.lst (natV ((kidIds d l.parent).filter fun y => y != l.id)))) := Kp.refl.upd (by simp)
  have hs : upd H1 (lay l.parent 2) (.lst (natV ((kidIds d l.parent).filter fun y => y != l.id))) (lay l.parent 2) = some (.lst (natV ((kidIds d l.parent).filter fun y => y != l.id))) := upd_same
  obtain ⟨kvs, hk, pk⟩ := D1.s.i.dict
  have n21 : lay 0 1 ≠ lay l.parent 2 := fun e => by have := (D.inj _ _ _ _ (used0 (by decide)) (usedP hq) e).2; omega
  have hk1 : upd H1 (lay l.parent 2) (.lst (natV ((kidIds d l.parent).filter fun y => y != l.id))) (lay 0 1) = some (.dK kvs) := by rw [upd_ne n21]; exact hk
  have hf1 : upd H1 (lay l.parent 2) (.lst (natV ((kidIds d l.parent).filter fun y => y != l.id))) D0 = some (.lst (natV found)) := by rw [upd_ne (nD (usedP hq)).symm]; exact h1
  generalize upd H1 (lay l.parent 2) (.lst (natV ((kidIds d l.parent).filter fun y => y != l.id))) = H2 at K1 hs hk1 hf1 ⊢
  refine ⟨_, rfl, D0, rfl, ⟨_, .of hf1⟩, ?_⟩
  refine for_list (K := K) (a := D0) (xs := natV found) (fun i σ H' => ∃ z, Kp [(l.parent, 2), (0, 1)] lay H1 H' ∧ H' (lay l.parent 2) = some (.lst (natV ((kidIds d l.parent).filter fun y => y != l.id))) ∧ H' (lay 0 1) = some (.dK (popAll kvs (found.take i))) ∧ H' D0 = some (.lst (natV found)) ∧
      σ = [some (.ref (lay 0 0)), some (.int (l.id : Int)), some (.ref D0), z]) ⟨none, K1, hs, hk1, hf1, rfl⟩ (fun i σ H' _ ⟨_, _, _, _, h, _⟩ => .of h) ?_ ?_
  · rintro i x σ H' hx ⟨z, k1, a1, a2, a3, rfl⟩
    obtain ⟨n, hn, rfl⟩ := natV_at hx
    have hd2 := k1.at_ D.inj us (used0 (d := d) (by decide)) (by simp) hd1
    have nmem := pf.mem_iff.mp (List.mem_of_getElem? hn)
    obtain ⟨⟨m, hm3, rfl⟩, _⟩ := (sub_mem I L).mp nmem
    have fnd : found.Nodup := pf.nodup_iff.mpr (by unfold sub; exact filter_ids_nodup I _)
    have nin : m.id ∉ found.take i := fun h => by
      have := take_more hn
      have n2 : (found.take (i + 1)).Nodup := List.Nodup.sublist (List.take_sublist _ _) fnd
      rw [this, List.nodup_append] at n2
      exact n2.2.2 _ h _ (List.mem_singleton.mpr rfl) rfl
    have mk : (Sum.inl (m.id : Int), V.ref (lay m.id 0)) ∈ popAll kvs (found.take i) := by
      rw [popAll_mem]
      refine ⟨pk.mem_iff.mpr (List.mem_map_of_mem hm3), fun y hy e => nin ?_⟩
      have : ((m.id : Int)) = (y : Int) := Sum.inl.inj e
      have : m.id = y := by omega
      rw [this]
      exact hy
    obtain ⟨u, hu⟩ := valV_some mk
    refine ⟨_, rfl, _, _, _, _, _, rfl, hd2, T.cD, T.nD _ (by decide), rfl, lay 0 1, rfl, .inl ⟨_, .inl a2⟩, _, rfl, _, Sum.inl (m.id : Int), u, a2, rfl, hu, ?_⟩
    rw [take_more hn, popAll_more]
    refine ⟨_, k1.upd (i := 0) (p := 1) (by simp), ?_, upd_same, ?_, rfl⟩
    · rw [upd_ne n21.symm]; exact a1
    · rw [upd_ne (nD (used0 (by decide))).symm]; exact a3
  · rintro σ H' ⟨z, k1, a1, a2, a3, rfl⟩
    rw [natV_length, List.take_length] at a2
    refine ⟨_, rfl, D0, _, rfl, .inl (.of a3), ?_⟩
    rw [natV_length, pf.length_eq, ← drop_count]
    refine q H' (drop_doc D1 I L hl hq k1 a1 ⟨_, a2, pop_perm I L pf pk⟩) (fun a u h n => k1.away us (s1 _ _ h) n) fun a ha => ?_
    cases h : H a with
    | none => rfl
    | some u =>
      have k2 := k1 a u (s1 _ _ h)
      rw [ha] at k2
      exact absurd (k2 fun x hx => by
        simp only [List.mem_cons, List.not_mem_nil, or_false] at hx
        rcases hx with rfl | rfl
        · intro e2
          rw [← e2, a1] at ha
          cases ha
        · intro e2
          rw [← e2, a2] at ha
          cases ha) (by simp)
end
end LH

set_option Elab.async false
set_option linter.all false
set_option maxRecDepth 100000
set_option maxHeartbeats 400000
namespace LH
open PySem PySem.Spec PyProof.Rows L2
open Ie02 (Frac Px Colour Doc Layer)
open LM
section
variable {X : Cx}
theorem pgI {x : Str} {i : Int} {pos : Pos} (hm : ∃ t, X.mg x = some (.int i t)) (hg : Gl X x := by rfl) (hd : (x == ("__debug__" : Str)) = false := by decide) : PE X (.Name x pos) (tC (.int i)) := by
  obtain ⟨t, hm⟩ := hm
  exact pe_glob hg hm ⟨t, rfl⟩ hd
end
/-- the top, for the operations -/
structure TO (K : PySem.W.Frag) (mg : Str → Option Value) (c : CAd) (e : Nat → Addr) : Prop extends TC K mg c (e 2) where
  x_OutOfRange : ErrAt K mg "OutOfRange" (e 1)
  x_WrongSetting : ErrAt K mg "WrongSetting" (e 3)
  x_CannotClip : ErrAt K mg "CannotClip" (e 4)
  x_TooFewLayers : ErrAt K mg "TooFewLayers" (e 5)
  c_LARGEST_SIDE : ∃ t, mg "LARGEST_SIDE" = some (.int 6 t)
  c_MOST_LAYERS : ∃ t, mg "MOST_LAYERS" = some (.int 12 t)
  c_HIGHEST_LEVEL : ∃ t, mg "HIGHEST_LEVEL" = some (.int 4 t)
  c_HIGHEST_BYTE : ∃ t, mg "HIGHEST_BYTE" = some (.int 255 t)
  c_HIGHEST_MODE : ∃ t, mg "HIGHEST_MODE" = some (.int 11 t)
  c_HIGHEST_KIND : ∃ t, mg "HIGHEST_KIND" = some (.int 2 t)
/-- what an operation owes: an error before any change, or a new list of numbers and the next document -/
structure After (K : PySem.W.Frag) (c : CAd) (e : Nat → Addr) (d : Doc) (lay : Lay) (H : Hp) (Q : VK) (E : XK) (r : Doc × List Int) : Prop where
  err : ∀ (k : Nat) (H1 : Hp), 1 ≤ k → k ≤ 5 → r = (d, [-(k : Int)]) → Same H H1 → E (.ref (e k)) none H1
  ok : ∀ (D : Addr) (H' : Hp) (lay' : Lay), DocH K c H' r.1 lay' → Trans H d lay H' r.1 lay' → lay' 0 0 = lay 0 0 → H D = none → H' D = some (.lst (r.2.map V.int)) → ¬ Foot r.1 lay' D → Q (.ref D) H'
section
variable {P : Program} {w : World} {K : PySem.W.Frag} {mg : Str → Option Value} {base : Heap} {c : CAd} {e : Nat → Addr}
/-- an operation on the document at the first place -/
def spOp (K : PySem.W.Frag) (c : CAd) (e : Nat → Addr) (f : List Nat → Option Ie02.Call) : Sp := fun vs H Q E => ∃ (d : Doc) (lay : Lay) (ns : List Nat) (cl : Ie02.Call), vs = .ref (lay 0 0) :: natV ns ∧ f ns = some cl ∧ DocH K c H d lay ∧ WF d ∧ (∀ n ∈ ns, n < 2 ^ 32) ∧ After K c e d lay H Q E (Ie02.step d cl)
def spSide (e : Nat → Addr) : Sp := fun vs H Q E => ∃ n : Nat, vs = [.int (n : Int)] ∧ (n < 1 ∨ 6 < n → E (.ref (e 1)) none H) ∧ (¬ (n < 1 ∨ 6 < n) → Q .non H)
abbrev s_check_side : Stmt := topS 66
abbrev N_check_side : List Str := ["length"]
abbrev P_check_side : List Str := ["length"]
theorem sc_check_side : FnScope N_check_side P_check_side (defScope s_check_side) := ⟨rfl, rfl, rfl, by decide +kernel, rfl, by decide +kernel, by decide +kernel⟩
theorem d_check_side (T : TO K mg c e) (F : TopFn K mg "check_side" "check_side" s_check_side P_check_side) : DefAt P w K mg base (L2.CX P w) 38 "check_side" P_check_side (spSide e) := by
  refine F.okX sc_check_side (fun vs H Q E h => ?_) (fun fa cdv A outer s H vs Q E hr h => ?_)
  · obtain ⟨_, rfl, _⟩ := h; rfl
  obtain ⟨n, rfl, q1, q2⟩ := h
  have nd := sc_check_side.nd
  refine ⟨_, (pss_one (ps_if (PW.pt (pw_or (pt_cmpR op_lt (pv 0) pe_int (nomark _)) (pw_or1 (pt_cmpR op_gt (pv 0) (pgI T.c_LARGEST_SIDE) (nomark _))))) (pss_one (praise T.x_OutOfRange (takes_of rfl rfl rfl rfl))) pss_nil)), ?_⟩
  refine ⟨_, rfl, _, _, rfl, rfl, _, rfl, ?_⟩
  by_cases h1 : n < 1
  · refine (if_pos (by simp; omega)).mpr ?_
    exact (if_pos rfl).mpr (q1 (.inl h1))
  · refine (if_neg (by simp; omega)).mpr ?_
    refine ⟨_, rfl, _, _, rfl, rfl, _, rfl, ?_⟩
    by_cases h2 : 6 < n
    · exact (if_pos (by simp; omega)).mpr (q1 (.inr h2))
    · exact (if_neg (by simp; omega)).mpr (q2 (by omega))
def spSet (e : Nat → Addr) : Sp := fun vs H Q E => ∃ n m : Nat, vs = [.int (n : Int), .int (m : Int)] ∧ (m < n → E (.ref (e 3)) none H) ∧ (n ≤ m → Q .non H)
abbrev s_check_setting : Stmt := topS 67
abbrev N_check_setting : List Str := ["value", "highest"]
abbrev P_check_setting : List Str := ["value", "highest"]
theorem sc_check_setting : FnScope N_check_setting P_check_setting (defScope s_check_setting) := ⟨rfl, rfl, rfl, by decide +kernel, rfl, by decide +kernel, by decide +kernel⟩
theorem d_check_setting (T : TO K mg c e) (F : TopFn K mg "check_setting" "check_setting" s_check_setting P_check_setting) : DefAt P w K mg base (L2.CX P w) 38 "check_setting" P_check_setting (spSet e) := by
  refine F.okX sc_check_setting (fun vs H Q E h => ?_) (fun fa cdv A outer s H vs Q E hr h => ?_)
  · obtain ⟨_, _, rfl, _⟩ := h; rfl
  obtain ⟨n, m, rfl, q1, q2⟩ := h
  have nd := sc_check_setting.nd
  refine ⟨_, (pss_one (ps_if (pt_cmpR op_gt (pv 0) (pv 1) (nomark _)) (pss_one (praise T.x_WrongSetting (takes_of rfl rfl rfl rfl))) pss_nil)), ?_⟩
  refine ⟨_, rfl, _, rfl, _, _, rfl, rfl, _, rfl, ?_⟩
  by_cases h1 : m < n
  · exact (if_pos (by simp; omega)).mpr (q1 h1)
  · exact (if_neg (by simp; omega)).mpr (q2 (by omega))
def spRoom (K : PySem.W.Frag) (c : CAd) (e : Nat → Addr) : Sp := fun vs H Q E => ∃ (d : Doc) (lay : Lay) (p : Nat), vs = [.ref (lay 0 0), .int (p : Int)] ∧ DocH K c H d lay ∧ WF d ∧ (d.takes p = false → E (.ref (e 2)) none H) ∧
  (d.takes p = true → (Ie02.LAYERS ≤ d.layers.length ∨ Ie02.LOW ≤ d.depth Ie02.LAYERS p) → E (.ref (e 1)) none H) ∧ (d.takes p = true → ¬ (Ie02.LAYERS ≤ d.layers.length ∨ Ie02.LOW ≤ d.depth Ie02.LAYERS p) → Q .non H)
abbrev s_check_room : Stmt := topS 68
abbrev N_check_room : List Str := ["document", "parent"]
abbrev P_check_room : List Str := ["document", "parent"]
theorem sc_check_room : FnScope N_check_room P_check_room (defScope s_check_room) := ⟨rfl, rfl, rfl, by decide +kernel, rfl, by decide +kernel, by decide +kernel⟩
theorem d_check_room (T : TO K mg c e) (M_members_of : MetAt P w K mg base (L2.CX P w) 40 c.D "members_of" P_Document_members_of (spMem c (e 2))) (M_level_in : MetAt P w K mg base CX0 38 c.D "level_in" P_Document_level_in (spLevel c))
    (F : TopFn K mg "check_room" "check_room" s_check_room P_check_room) : DefAt P w K mg base (L2.CX P w) 41 "check_room" P_check_room (spRoom K c e) := by
  refine F.okX sc_check_room (fun vs H Q E h => ?_) (fun fa cdv A outer s H vs Q E hr h => ?_)
  · obtain ⟨_, _, _, rfl, _⟩ := h; rfl
  obtain ⟨d, lay, p, rfl, D, W, q1, q2, q3⟩ := h
  have nd := sc_check_room.nd
  refine ⟨_, (pss_cons (ps_expr (pm (pv 0) T.cD M_members_of (hr.mono (by omega)) (passes_call (takes_of rfl rfl rfl rfl) (fun _ _ _ _ h => h)) (pa_cons (pv 1) pa_nil))) (pss_cons (ps_if (pt_cmpR op_ge (pe_callB call_lenD (by rfl) T.n_len (by decide +kernel) (pa_cons (pfld (K := K) (pv 0) rfl) pa_nil)) (pgI T.c_MOST_LAYERS) (nomark _)) (pss_one (praise T.x_OutOfRange (takes_of rfl rfl rfl rfl))) pss_nil) (pss_one (ps_if (pt_cmpR op_gt (pm (pv 0) T.cD M_level_in (hr.mono (by omega)) pass0 (pa_cons (pv 1) pa_nil)) (pgI T.c_HIGHEST_LEVEL) (nomark _)) (pss_one (praise T.x_OutOfRange (takes_of rfl rfl rfl rfl))) pss_nil)))), ?_⟩
  obtain ⟨dx, hd⟩ := D.s.i.doc
  obtain ⟨kvs, hk, pk⟩ := D.s.i.dict
  have len := pk.length_eq
  rw [List.length_map] at len
  refine ⟨_, rfl, lay 0 0, dx, _, rfl, hd, rfl, _, rfl, d, lay, p, rfl, D.s.i, W.ids, q1, fun tk => ?_⟩
  have q2 := q2 tk
  have q3 := q3 tk
  have hp := (takes_iff W.ids p).mp tk
  obtain ⟨f, L⟩ := W.lev
  have de : d.depth Ie02.LAYERS p = f p := depth_eq W.ids L _ _ (by have := L.le4 hp.known; show f p < 12; omega) hp.known
  rw [de] at q2 q3
  have e12 : Ie02.LAYERS = 12 := rfl
  have e4 : Ie02.LOW = 4 := rfl
  refine ⟨_, rfl, _, _, _, _, _, rfl, hd, T.cD, T.nD _ (by decide), rfl, _, kvs, rfl, hk, _, _, rfl, rfl, _, rfl, ?_⟩
  by_cases h1 : 12 ≤ d.layers.length
  · exact (if_pos (by simp; omega)).mpr (q2 (.inl h1))
  refine (if_neg (by simp; omega)).mpr ?_
  refine ⟨_, rfl, lay 0 0, dx, _, rfl, hd, rfl, _, rfl, d, lay, f, p, rfl, D.s.i, W.ids, L, hp, _, _, rfl, rfl, _, rfl, ?_⟩
  by_cases h2 : 4 ≤ f p
  · exact (if_pos (by simp; omega)).mpr (q2 (.inr h2))
  · exact (if_neg (by simp; omega)).mpr (q3 (by omega))
def cPage : List Nat → Option Ie02.Call | [w, h] => some (.page w h) | _ => none
abbrev s_new_canvas : Stmt := topS 69
abbrev N_new_canvas : List Str := ["document", "width", "height"]
abbrev P_new_canvas : List Str := ["document", "width", "height"]
theorem sc_new_canvas : FnScope N_new_canvas P_new_canvas (defScope s_new_canvas) := ⟨rfl, rfl, rfl, by decide +kernel, rfl, by decide +kernel, by decide +kernel⟩
theorem d_new_canvas (T : TO K mg c e) (G_check_side : DefAt P w K mg base (L2.CX P w) 38 "check_side" P_check_side (spSide e)) (M_begin : MetAt P w K mg base CX0 38 c.D "begin" P_Document_begin (spBegin K c))
    (F : TopFn K mg "new_canvas" "new_canvas" s_new_canvas P_new_canvas) : DefAt P w K mg base (L2.CX P w) 42 "new_canvas" P_new_canvas (spOp K c e cPage) := by
  refine F.okX sc_new_canvas (fun vs H Q E h => ?_) (fun fa cdv A outer s H vs Q E hr h => ?_)
  · obtain ⟨_, _, ns, _, rfl, hc, _⟩ := h
    match ns, hc with
    | [_, _], _ => rfl
  obtain ⟨d, lay, ns, cl, rfl, hc, D, W, _, q⟩ := h
  obtain ⟨wd, ht, rfl, rfl⟩ : ∃ wd ht, ns = [wd, ht] ∧ cl = .page wd ht := by
    match ns, hc with
    | [a, b], hc => exact ⟨a, b, rfl, (Option.some.inj hc).symm⟩
  have nd := sc_new_canvas.nd
  refine ⟨_, (pss_cons (ps_expr (pc G_check_side (hr.mono (by omega)) (passes_call (takes_of rfl rfl rfl rfl) (fun _ _ _ _ h => h)) (pa_cons (pv 1) pa_nil))) (pss_cons (ps_expr (pc G_check_side (hr.mono (by omega)) (passes_call (takes_of rfl rfl rfl rfl) (fun _ _ _ _ h => h)) (pa_cons (pv 2) pa_nil))) (pss_cons (ps_expr (pm (pv 0) T.cD M_begin (hr.mono (by omega)) pass0 (pa_cons (pv 1) (pa_cons (pv 2) pa_nil)))) (pss_one (ps_ret (pe_lst (pa_cons pe_int pa_nil))))))), ?_⟩
  have bad : (wd < 1 ∨ 6 < wd) ∨ (ht < 1 ∨ 6 < ht) → Ie02.step d (.page wd ht) = (d, [-1]) := fun h => if_pos (by omega)
  have good : ¬ (wd < 1 ∨ 6 < wd) → ¬ (ht < 1 ∨ 6 < ht) → Ie02.step d (.page wd ht) = (⟨wd, ht, [], 1⟩, [0]) := fun h1 h2 => if_neg (by omega)
  refine ⟨_, rfl, wd, rfl, fun h => q.err 1 H (by decide) (by decide) (bad (.inl h)) (Same.refl _), fun h1 => ?_⟩
  refine ⟨_, rfl, ht, rfl, fun h => q.err 1 H (by decide) (by decide) (bad (.inr h)) (Same.refl _), fun h2 => ?_⟩
  obtain ⟨dx, hd⟩ := D.s.i.doc
  refine ⟨_, rfl, lay 0 0, dx, _, rfl, hd, rfl, _, rfl, _, rfl, lay 0 0, dx, _, wd, ht, rfl, hd, .inr ⟨d, lay, rfl⟩, fun k r H' hk hr2 ka ra kr b b1 b2 b3 => ?_⟩
  refine ⟨(by show 1 ≤ sizeLine; decide), fun D0 hD0 => ?_⟩
  have s1 : Same H' (upd H' D0 (.lst [.int 0])) := Same.new hD0
  have dh : DocH K c (upd H' D0 (.lst [.int 0])) ⟨wd, ht, [], 1⟩ (begLay lay k r) := (begin_doc lay rfl ka ra kr b1 b2 b3).mono s1
  have tr : Trans H d lay (upd H' D0 (.lst [.int 0])) ⟨wd, ht, [], 1⟩ (begLay lay k r) := begin_trans (fun a u ne h => s1 _ _ (b a u ne h)) hk hr2
  have nf : ¬ Foot (⟨wd, ht, [], 1⟩ : Doc) (begLay lay k r) D0 := fun f => by
    obtain ⟨u, hu⟩ := foot_some (begin_doc (c := c) (K := K) lay rfl ka ra kr b1 b2 b3).s f
    rw [hD0] at hu
    cases hu
  have n0 : H D0 = none := b.free (fun e2 => by rw [e2, b1] at hD0; cases hD0) hD0
  have z := q.ok
  rw [good h1 h2] at z
  exact z D0 _ _ dh tr rfl n0 upd_same nf
end
end LH

set_option Elab.async false
set_option linter.all false
set_option maxRecDepth 100000
set_option maxHeartbeats 400000
namespace LH
open PySem PySem.Spec PyProof.Rows L2
open Ie02 (Frac Px Colour Doc Layer)
open LM
section
variable {P : Program} {w : World} {K : PySem.W.Frag} {mg : Str → Option Value} {base : Heap} {c : CAd} {e : Nat → Addr}
theorem area36 {d : Doc} (W : WF d) : d.w * d.h ≤ 36 := Nat.mul_le_mul W.w6 W.h6
theorem new_ok (id p : Nat) (k : LKind) (n : Nat) : LOk n (newL id p k n) := by
  refine ⟨Nat.le_refl _, Nat.zero_le _, List.length_replicate, fun m hm => ?_, List.length_replicate, fun q hq => ?_⟩
  · rw [List.eq_of_mem_replicate hm]
    exact Nat.le_refl _
  · rw [List.eq_of_mem_replicate hq]
    exact ⟨by decide, by decide, by decide, by decide⟩
theorem add_fin {H H1 : Hp} {d : Doc} {lay : Lay} {Q : VK} {E : XK} {k : LKind} {p : Nat} {x m r : Addr} (D : DocH K c H d lay) (W : WF d) (hp : Par d p) (len : d.layers.length < 12) (hx : H x = none) (hm : H m = none) (hr : H r = none) (s : Same H H1)
    (L : ∀ id, LayAt K c H1 (newL id p k (d.w * d.h)) (mkLy x m r)) (qq : After K c e d lay H Q E (pushD d (newL d.next p k (d.w * d.h)), [(d.next : Int)])) :
    spPut K c [.ref (lay 0 0), .ref x] H1 (fun v H2 => 1 ≤ sizeLine ∧ ∀ D0, H2 D0 = none → Q (.ref D0) (upd H2 D0 (.lst [v]))) E0 := by
  have fr : ∀ q, q ≤ 2 → H (mkLy x m r q) = none := fun q hq => by
    match q, hq with
    | 0, _ => exact hx
    | 1, _ => exact hm
    | 2, _ => exact hr
  refine ⟨d, lay, newL d.next p k (d.w * d.h), mkLy x m r, rfl, D.mono s, W, rfl, hp, len, L _, fun q hq f => ?_, fun H2 D2 aw => ⟨by decide, fun D0 hD0 => ?_⟩⟩
  · obtain ⟨u, h⟩ := foot_some D.s f
    rw [fr q hq] at h
    cases h
  have s2 : Same H2 (upd H2 D0 (.lst [.int (d.next : Int)])) := Same.new hD0
  have n1 := W.n1
  have z0 : layPut lay d.next (mkLy x m r) 0 0 = lay 0 0 := by rw [layPut_old (by omega)]
  refine qq.ok D0 _ _ (D2.mono s2) ⟨fun a u h n => s2 _ _ (aw a u (s _ _ h) n), fun a f => ?_⟩ z0 ?_ upd_same fun f => ?_
  · rcases push_foot W rfl f with f | ⟨q, hq, rfl⟩
    · exact .inl f
    · exact .inr (fr q hq)
  · cases h : H D0 with
    | none => rfl
    | some u =>
      by_cases f : Foot d lay D0
      · have f2 : Foot (pushD d (newL d.next p k (d.w * d.h))) (layPut lay d.next (mkLy x m r)) D0 := by
          obtain ⟨i, j, hu, rfl⟩ := f
          refine ⟨i, j, ?_, by rw [layPut_old (Nat.ne_of_lt (used_lt W hu))]⟩
          rcases hu with hu | ⟨y, hy, r⟩
          · exact .inl hu
          · exact .inr ⟨y, List.mem_append_left _ hy, r⟩
        obtain ⟨u2, h2⟩ := foot_some D2.s f2
        rw [hD0] at h2
        cases h2
      · rw [aw D0 u (s _ _ h) f] at hD0
        cases hD0
  · obtain ⟨u2, h2⟩ := foot_some D2.s f
    rw [hD0] at h2
    cases h2
/-- what adding answers, by cases -/
theorem added_no {d : Doc} {p : Nat} {k : LKind} (h : d.takes p = false) : d.added p k = (d, [-2]) := if_pos h
theorem added_full {d : Doc} {p : Nat} {k : LKind} (h : d.takes p = true) (h2 : Ie02.LAYERS ≤ d.layers.length ∨ Ie02.LOW ≤ d.depth Ie02.LAYERS p) : d.added p k = (d, [-1]) := by
  unfold Doc.added
  rw [if_neg (by rw [h]; decide), if_pos h2]
theorem added_ok {d : Doc} {p : Nat} {k : LKind} (h : d.takes p = true) (h2 : ¬ (Ie02.LAYERS ≤ d.layers.length ∨ Ie02.LOW ≤ d.depth Ie02.LAYERS p)) : d.added p k = (pushD d (newL d.next p k (d.w * d.h)), [(d.next : Int)]) := by
  unfold Doc.added
  rw [if_neg (by rw [h]; decide), if_neg h2]
  rfl
def cLayer : List Nat → Option Ie02.Call | [p] => some (.layer p) | _ => none
def cGroup : List Nat → Option Ie02.Call | [p, t] => some (.group p t) | _ => none
def cChange : List Nat → Option Ie02.Call | [p, t] => some (.change p t) | _ => none
abbrev s_add_layer : Stmt := topS 70
abbrev N_add_layer : List Str := ["document", "parent"]
abbrev P_add_layer : List Str := ["document", "parent"]
theorem sc_add_layer : FnScope N_add_layer P_add_layer (defScope s_add_layer) := ⟨rfl, rfl, rfl, by decide +kernel, rfl, by decide +kernel, by decide +kernel⟩
theorem d_add_layer (T : TO K mg c e) (G_check_room : DefAt P w K mg base (L2.CX P w) 41 "check_room" P_check_room (spRoom K c e)) (M_put_highest : MetAt P w K mg base CX0 41 c.D "put_highest" P_Document_put_highest (spPut K c)) (M_size : MetAt P w K mg base CX0 38 c.D "size" P_Document_size (spSize c))
    (C_RasterLayer : ClsAt P w K mg base 39 "RasterLayer" c.R P_RasterLayer_init (spInit K c .picture)) (F : TopFn K mg "add_layer" "add_layer" s_add_layer P_add_layer) : DefAt P w K mg base (L2.CX P w) 42 "add_layer" P_add_layer (spOp K c e cLayer) := by
  refine F.okX sc_add_layer (fun vs H Q E h => ?_) (fun fa cdv A outer s H vs Q E hr h => ?_)
  · obtain ⟨_, _, ns, _, rfl, hc, _⟩ := h
    match ns, hc with
    | [_], _ => rfl
  obtain ⟨d, lay, ns, cl, rfl, hc, D, W, _, q⟩ := h
  obtain ⟨p, rfl, rfl⟩ : ∃ p, ns = [p] ∧ cl = .layer p := by
    match ns, hc with
    | [a], hc => exact ⟨a, rfl, (Option.some.inj hc).symm⟩
  have nd := sc_add_layer.nd
  refine ⟨_, (pss_cons (ps_expr (pc G_check_room (hr.mono (by omega)) (passes_call (takes_of rfl rfl rfl rfl) (fun _ _ _ _ h => h)) (pa_cons (pv 0) (pa_cons (pv 1) pa_nil)))) (pss_one (ps_ret (pe_lst (pa_cons (pm (pv 0) T.cD M_put_highest (hr.mono (by omega)) pass0 (pa_cons (pmkA C_RasterLayer (hr.mono (by omega)) pass0 (pa_cons (pv 1) (pa_cons (pm0 (pv 0) T.cD M_size (hr.mono (by omega)) pass0) pa_nil))) pa_nil)) pa_nil))))), ?_⟩
  refine ⟨_, rfl, _, rfl, d, lay, p, rfl, D, W, fun h => q.err 2 H (by decide) (by decide) (added_no h) (Same.refl _), fun h h2 => q.err 1 H (by decide) (by decide) (added_full h h2) (Same.refl _), fun h h2 => ?_⟩
  have q : After K c e d lay H Q E (d.added p .picture) := q
  rw [added_ok h h2] at q
  obtain ⟨dx, hd⟩ := D.s.i.doc
  have len : d.layers.length < 12 := by have e12 : Ie02.LAYERS = 12 := rfl; omega
  refine ⟨_, rfl, lay 0 0, dx, _, rfl, hd, rfl, _, rfl, _, rfl, lay 0 0, dx, _, rfl, hd, rfl, d, lay, rfl, ⟨dx, hd⟩, W.w6, fun x dx2 hx hdx ne => ?_⟩
  have s1 : Same H (upd (upd H dx2 (.own x)) x (.ins c.R dx2 [])) := (Same.new hdx).trans (Same.new (by rw [upd_ne ne.symm]; exact hx))
  refine ⟨x, dx2, p, d.w * d.h, rfl, upd_same, area36 W, fun m r H' hm hr2 b L => ⟨rfl, ?_⟩⟩
  exact add_fin D W ((takes_iff W.ids p).mp h) len hx (s1.free hm) (s1.free hr2) (fun a u h => b a u (fun z => by rw [z, hx] at h; cases h) (s1 _ _ h)) L q
abbrev s_add_group : Stmt := topS 71
abbrev N_add_group : List Str := ["document", "parent", "pass_through"]
abbrev P_add_group : List Str := ["document", "parent", "pass_through"]
theorem sc_add_group : FnScope N_add_group P_add_group (defScope s_add_group) := ⟨rfl, rfl, rfl, by decide +kernel, rfl, by decide +kernel, by decide +kernel⟩
theorem d_add_group (T : TO K mg c e) (G_check_setting : DefAt P w K mg base (L2.CX P w) 38 "check_setting" P_check_setting (spSet e)) (G_check_room : DefAt P w K mg base (L2.CX P w) 41 "check_room" P_check_room (spRoom K c e)) (M_put_highest : MetAt P w K mg base CX0 41 c.D "put_highest" P_Document_put_highest (spPut K c)) (M_size : MetAt P w K mg base CX0 38 c.D "size" P_Document_size (spSize c))
    (C_Group : ∀ t, ClsAt P w K mg base 39 "Group" c.G P_Group_init (spInit K c (.group t))) (F : TopFn K mg "add_group" "add_group" s_add_group P_add_group) : DefAt P w K mg base (L2.CX P w) 42 "add_group" P_add_group (spOp K c e cGroup) := by
  refine F.okX sc_add_group (fun vs H Q E h => ?_) (fun fa cdv A outer s H vs Q E hr h => ?_)
  · obtain ⟨_, _, ns, _, rfl, hc, _⟩ := h
    match ns, hc with
    | [_, _], _ => rfl
  obtain ⟨d, lay, ns, cl, rfl, hc, D, W, _, q⟩ := h
  obtain ⟨p, t, rfl, rfl⟩ : ∃ p t, ns = [p, t] ∧ cl = .group p t := by
    match ns, hc with
    | [a, b], hc => exact ⟨a, b, rfl, (Option.some.inj hc).symm⟩
  have nd := sc_add_group.nd
  have C_Group := C_Group (t == 1)
  refine ⟨_, (pss_cons (ps_expr (pc G_check_setting (hr.mono (by omega)) (passes_call (takes_of rfl rfl rfl rfl) (fun _ _ _ _ h => h)) (pa_cons (pv 2) (pa_cons pe_int pa_nil)))) (pss_cons (ps_expr (pc G_check_room (hr.mono (by omega)) (passes_call (takes_of rfl rfl rfl rfl) (fun _ _ _ _ h => h)) (pa_cons (pv 0) (pa_cons (pv 1) pa_nil)))) (pss_one (ps_ret (pe_lst (pa_cons (pm (pv 0) T.cD M_put_highest (hr.mono (by omega)) pass0 (pa_cons (pmkA C_Group (hr.mono (by omega)) pass0 (pa_cons (pv 1) (pa_cons (pm0 (pv 0) T.cD M_size (hr.mono (by omega)) pass0) (pa_cons (pv 2) pa_nil)))) pa_nil)) pa_nil)))))), ?_⟩
  have st : ¬ 1 < t → Ie02.step d (.group p t) = d.added p (.group (t == 1)) := fun h => if_neg h
  refine ⟨_, rfl, t, 1, rfl, fun h => q.err 3 H (by decide) (by decide) (if_pos h) (Same.refl _), fun h1 => ?_⟩
  rw [st (by omega)] at q
  refine ⟨_, rfl, _, rfl, d, lay, p, rfl, D, W, fun h => q.err 2 H (by decide) (by decide) (added_no h) (Same.refl _), fun h h2 => q.err 1 H (by decide) (by decide) (added_full h h2) (Same.refl _), fun h h2 => ?_⟩
  rw [added_ok h h2] at q
  obtain ⟨dx, hd⟩ := D.s.i.doc
  have len : d.layers.length < 12 := by have e12 : Ie02.LAYERS = 12 := rfl; omega
  refine ⟨_, rfl, lay 0 0, dx, _, rfl, hd, rfl, _, rfl, _, rfl, lay 0 0, dx, _, rfl, hd, rfl, d, lay, rfl, ⟨dx, hd⟩, W.w6, _, rfl, fun x dx2 hx hdx ne => ?_⟩
  have s1 : Same H (upd (upd H dx2 (.own x)) x (.ins c.G dx2 [])) := (Same.new hdx).trans (Same.new (by rw [upd_ne ne.symm]; exact hx))
  have et : (t == 1).toNat = t := by
    rcases (show t = 0 ∨ t = 1 by omega) with rfl | rfl <;> rfl
  refine ⟨x, dx2, p, d.w * d.h, (by show _ = V.ref x :: V.int (p : Int) :: V.int ((d.w * d.h : Nat) : Int) :: [V.int ((t == 1).toNat : Int)]; rw [et]), upd_same, area36 W, fun m r H' hm hr2 b L => ⟨rfl, ?_⟩⟩
  exact add_fin D W ((takes_iff W.ids p).mp h) len hx (s1.free hm) (s1.free hr2) (fun a u h => b a u (fun z => by rw [z, hx] at h; cases h) (s1 _ _ h)) L q
abbrev s_add_adjustment : Stmt := topS 72
abbrev N_add_adjustment : List Str := ["document", "parent", "kind"]
abbrev P_add_adjustment : List Str := ["document", "parent", "kind"]
theorem sc_add_adjustment : FnScope N_add_adjustment P_add_adjustment (defScope s_add_adjustment) := ⟨rfl, rfl, rfl, by decide +kernel, rfl, by decide +kernel, by decide +kernel⟩
theorem d_add_adjustment (T : TO K mg c e) (G_check_setting : DefAt P w K mg base (L2.CX P w) 38 "check_setting" P_check_setting (spSet e)) (G_check_room : DefAt P w K mg base (L2.CX P w) 41 "check_room" P_check_room (spRoom K c e)) (M_put_highest : MetAt P w K mg base CX0 41 c.D "put_highest" P_Document_put_highest (spPut K c)) (M_size : MetAt P w K mg base CX0 38 c.D "size" P_Document_size (spSize c))
    (C_AdjustmentLayer : ∀ t, ClsAt P w K mg base 39 "AdjustmentLayer" c.A P_AdjustmentLayer_init (spInit K c (.change t))) (F : TopFn K mg "add_adjustment" "add_adjustment" s_add_adjustment P_add_adjustment) : DefAt P w K mg base (L2.CX P w) 42 "add_adjustment" P_add_adjustment (spOp K c e cChange) := by
  refine F.okX sc_add_adjustment (fun vs H Q E h => ?_) (fun fa cdv A outer s H vs Q E hr h => ?_)
  · obtain ⟨_, _, ns, _, rfl, hc, _⟩ := h
    match ns, hc with
    | [_, _], _ => rfl
  obtain ⟨d, lay, ns, cl, rfl, hc, D, W, _, q⟩ := h
  obtain ⟨p, t, rfl, rfl⟩ : ∃ p t, ns = [p, t] ∧ cl = .change p t := by
    match ns, hc with
    | [a, b], hc => exact ⟨a, b, rfl, (Option.some.inj hc).symm⟩
  have nd := sc_add_adjustment.nd
  have C_AdjustmentLayer := C_AdjustmentLayer t
  refine ⟨_, (pss_cons (ps_expr (pc G_check_setting (hr.mono (by omega)) (passes_call (takes_of rfl rfl rfl rfl) (fun _ _ _ _ h => h)) (pa_cons (pv 2) (pa_cons (pgI T.c_HIGHEST_KIND) pa_nil)))) (pss_cons (ps_expr (pc G_check_room (hr.mono (by omega)) (passes_call (takes_of rfl rfl rfl rfl) (fun _ _ _ _ h => h)) (pa_cons (pv 0) (pa_cons (pv 1) pa_nil)))) (pss_one (ps_ret (pe_lst (pa_cons (pm (pv 0) T.cD M_put_highest (hr.mono (by omega)) pass0 (pa_cons (pmkA C_AdjustmentLayer (hr.mono (by omega)) pass0 (pa_cons (pv 1) (pa_cons (pm0 (pv 0) T.cD M_size (hr.mono (by omega)) pass0) (pa_cons (pv 2) pa_nil)))) pa_nil)) pa_nil)))))), ?_⟩
  have st : ¬ 2 < t → Ie02.step d (.change p t) = d.added p (.change t) := fun h => if_neg h
  refine ⟨_, rfl, t, 2, rfl, fun h => q.err 3 H (by decide) (by decide) (if_pos h) (Same.refl _), fun h1 => ?_⟩
  rw [st (by omega)] at q
  refine ⟨_, rfl, _, rfl, d, lay, p, rfl, D, W, fun h => q.err 2 H (by decide) (by decide) (added_no h) (Same.refl _), fun h h2 => q.err 1 H (by decide) (by decide) (added_full h h2) (Same.refl _), fun h h2 => ?_⟩
  rw [added_ok h h2] at q
  obtain ⟨dx, hd⟩ := D.s.i.doc
  have len : d.layers.length < 12 := by have e12 : Ie02.LAYERS = 12 := rfl; omega
  refine ⟨_, rfl, lay 0 0, dx, _, rfl, hd, rfl, _, rfl, _, rfl, lay 0 0, dx, _, rfl, hd, rfl, d, lay, rfl, ⟨dx, hd⟩, W.w6, _, rfl, fun x dx2 hx hdx ne => ?_⟩
  have s1 : Same H (upd (upd H dx2 (.own x)) x (.ins c.A dx2 [])) := (Same.new hdx).trans (Same.new (by rw [upd_ne ne.symm]; exact hx))
  refine ⟨x, dx2, p, d.w * d.h, rfl, upd_same, area36 W, fun m r H' hm hr2 b L => ⟨rfl, ?_⟩⟩
  exact add_fin D W ((takes_iff W.ids p).mp h) len hx (s1.free hm) (s1.free hr2) (fun a u h => b a u (fun z => by rw [z, hx] at h; cases h) (s1 _ _ h)) L q
end
end LH

set_option Elab.async false
set_option linter.all false
set_option maxRecDepth 100000
set_option maxHeartbeats 400000
namespace LH
open PySem PySem.Spec PyProof.Rows L2
open Ie02 (Frac Px Colour Doc Layer)
open LM
theorem ix_nat {n j : Nat} (hj : j < n) : ixN n (j : Int) = some j := by
  unfold ixN
  rw [if_pos (by omega), if_pos (by omega), Int.toNat_natCast]
theorem paired_set {α β : Type} {R : α → β → Prop} {x : α} {y : β} (r : R x y) : ∀ {a : List α} {b : List β} (i : Nat), Paired R a b → Paired R (a.set i x) (b.set i y)
  | _, _, _, .nil => .nil
  | _, _, 0, .cons _ t => .cons r t
  | _, _, i + 1, .cons h t => .cons h (paired_set r i t)
section
variable {S : List (Nat × Nat)} {lay : Lay} {H H' : Hp} {d : Doc} {K : PySem.W.Frag} {c : CAd} {g : Layer → Layer}
theorem edit_used (t : Tame g) {n i j : Nat} : Used (d.edit n g) i j ↔ Used d i j := by
  have t2 := t.ite n
  constructor
  · rintro (h | ⟨m, hm, rfl, r⟩)
    · exact .inl h
    · obtain ⟨y, hy, rfl⟩ := edit_mem.mp hm
      refine .inr ⟨y, hy, (t2.id y).symm, ?_⟩
      have e : (if y.id = n then g y else y).kind = y.kind := t2.kind y
      rw [e] at r
      exact r
  · rintro (h | ⟨y, hy, rfl, r⟩)
    · exact .inl h
    · refine .inr ⟨_, edit_mem.mpr ⟨y, hy, rfl⟩, t2.id y, ?_⟩
      have e : (if y.id = n then g y else y).kind = y.kind := t2.kind y
      rw [e]
      exact r
theorem edit_foot (t : Tame g) {n : Nat} {a : Addr} (h : Foot (d.edit n g) lay a) : Foot d lay a := let ⟨i, p, u, e⟩ := h; ⟨i, p, (edit_used t).mp u, e⟩
theorem edit_doc (D : DocH K c H d lay) (I : Ids d) {l : Layer} (hl : l ∈ d.layers) (t : Tame g) (kp : Kp S lay H H') (hS : ∀ x ∈ S, x.1 = l.id ∧ Used d x.1 x.2 ∧ (x.2 = 2 → l.kind = .picture))
    (h0 : ∃ dx, H' (lay l.id 0) = some (.ins (c.of l.kind) dx (flds (g l) (lay l.id)))) (h1 : H' (lay l.id 1) = some (.lst (natV (g l).mask))) (h2 : l.kind = .picture → ∃ xs, H' (lay l.id 2) = some (.lst xs) ∧ Paired (CellAt K H') xs (g l).cells) :
    DocH K c H' (d.edit l.id g) lay := by
  have us : ∀ x ∈ S, Used d x.1 x.2 := fun x hx => (hS x hx).2.1
  have nt := D.s.noTs us
  have l0 : l.id ≠ 0 := by have := I.2 l hl; omega
  have ne : ∀ {i p : Nat}, i ≠ l.id → (i, p) ∉ S := fun h m => h (hS _ m).1
  have self : (if l.id = l.id then g l else l) = g l := if_pos rfl
  have eid : (g l).id = l.id := t.id l
  refine ⟨⟨⟨?_, ?_, fun m hm => ?_⟩, fun q h => ?_, fun m hm => ?_, fun m hm hk => ?_⟩, fun i p j q ui uj e => D.inj _ _ _ _ ((edit_used t).mp ui) ((edit_used t).mp uj) e⟩
  · obtain ⟨dx, h⟩ := D.s.i.doc
    exact ⟨dx, kp.at_ D.inj us (used0 (by decide)) (ne l0.symm) h⟩
  · obtain ⟨kvs, h, pk⟩ := D.s.i.dict
    refine ⟨kvs, kp.at_ D.inj us (used0 (by decide)) (ne l0.symm) h, ?_⟩
    rw [edit_layers, List.map_map]
    have e : ∀ m ∈ d.layers, (ent lay ∘ fun l_1 : Layer => if l_1.id = l.id then g l_1 else l_1) m = ent lay m := fun m _ => by
      show ent lay (if m.id = l.id then g m else m) = _
      unfold ent
      rw [show (if m.id = l.id then g m else m).id = m.id from (t.ite l.id).id m]
    rw [List.map_congr_left e]
    exact pk
  · obtain ⟨y, hy, rfl⟩ := edit_mem.mp hm
    by_cases e : y.id = l.id
    · have := mem_unique I hy hl e
      subst this
      rw [self, eid, t.kind]
      exact h0
    · rw [if_neg e]
      obtain ⟨dx, h⟩ := D.s.i.ins y hy
      exact ⟨dx, kp.at_ D.inj us (usedL hy (Nat.zero_le _)) (ne e) h⟩
  · have h := (edit_par t _).mp h
    rw [edit_kidIds t]
    refine kp.at_ D.inj us (usedP h) (fun m => ?_) (D.s.m q h)
    obtain ⟨a, _, b⟩ := hS _ m
    have a : q = l.id := a
    have b := b rfl
    rcases h with z | ⟨y, hy, e, gr⟩
    · exact l0 (a.symm.trans z)
    · have := mem_unique I hy hl (e.trans a)
      subst this
      rw [b] at gr
      cases gr
  · obtain ⟨y, hy, rfl⟩ := edit_mem.mp hm
    by_cases e : y.id = l.id
    · have := mem_unique I hy hl e
      subst this
      rw [self, eid]
      exact h1
    · rw [if_neg e]
      exact kp.at_ D.inj us (usedL hy (Nat.le_refl _)) (ne e) (D.s.k y hy)
  · obtain ⟨y, hy, rfl⟩ := edit_mem.mp hm
    by_cases e : y.id = l.id
    · have := mem_unique I hy hl e
      subst this
      rw [self] at hk ⊢
      rw [eid]
      rw [t.kind] at hk
      exact h2 hk
    · rw [if_neg e] at hk ⊢
      obtain ⟨xs, h, cs⟩ := D.s.p y hy hk
      exact ⟨xs, kp.at_ D.inj us (usedC hy (by rw [hk]; rfl)) (ne e) h, L2.Paired.mapP cs fun _ _ x => kp.cell nt x⟩
end
theorem mem_lt {d : Doc} (hw : 1 ≤ d.w) {x y u v i n : Nat} (h : (boxP d x y u v)[i]? = some n) : n < d.w * d.h := ((box_mem hw).mp (List.mem_of_getElem? h)).1
section
variable {P : Program} {w : World} {K : PySem.W.Frag} {mg : Str → Option Value} {base : Heap} {c : CAd} {e : Nat → Addr}
/-- the last step of an operation that answers [0] or another short list -/
theorem op_fin {H H2 : Hp} {d d' : Doc} {lay lay' : Lay} {Q : VK} {E : XK} {v : Int} (q : After K c e d lay H Q E (d', [v])) (D' : DocH K c H2 d' lay') (T : Trans H d lay H2 d' lay') (z : lay' 0 0 = lay 0 0) (sub : ∀ a, Foot d lay a → (∃ u, H a = some u) → ∃ u, H2 a = some u) :
    ∀ D0, H2 D0 = none → Q (.ref D0) (upd H2 D0 (.lst [.int v])) := fun D0 hD0 => by
  have s2 : Same H2 (upd H2 D0 (.lst [.int v])) := Same.new hD0
  refine q.ok D0 _ _ (D'.mono s2) (T.trans (Trans.same s2)) z ?_ upd_same fun f => ?_
  · cases h : H D0 with
    | none => rfl
    | some u =>
      by_cases f : Foot d lay D0
      · obtain ⟨u2, h2⟩ := sub D0 f ⟨u, h⟩
        rw [hD0] at h2
        cases h2
      · rw [T.keep D0 u h f] at hD0
        cases hD0
  · obtain ⟨u2, h2⟩ := foot_some D'.s f
    rw [hD0] at h2
    cases h2
def cMask : List Nat → Option Ie02.Call | [i, x, y, u, v, m] => some (.mask i x y u v m) | _ => none
abbrev s_set_mask : Stmt := topS 74
abbrev N_set_mask : List Str := ["document", "number", "x", "y", "width", "height", "value", "layer", "place"]
abbrev P_set_mask : List Str := ["document", "number", "x", "y", "width", "height", "value"]
theorem sc_set_mask : FnScope N_set_mask P_set_mask (defScope s_set_mask) := ⟨rfl, rfl, rfl, by decide +kernel, rfl, by decide +kernel, by decide +kernel⟩
theorem d_set_mask (T : TO K mg c e) (M_find_layer : MetAt P w K mg base (L2.CX P w) 38 c.D "find_layer" P_Document_find_layer (spFind c (e 2))) (G_check_setting : DefAt P w K mg base (L2.CX P w) 38 "check_setting" P_check_setting (spSet e)) (M_box : MetAt P w K mg base CX0 38 c.D "box" P_Document_box (spBox c))
    (F : TopFn K mg "set_mask" "set_mask" s_set_mask P_set_mask) : DefAt P w K mg base (L2.CX P w) 42 "set_mask" P_set_mask (spOp K c e cMask) := by
  refine F.okX sc_set_mask (fun vs H Q E h => ?_) (fun fa cdv A outer s H vs Q E hr h => ?_)
  · obtain ⟨_, _, ns, _, rfl, hc, _⟩ := h
    match ns, hc with
    | [_, _, _, _, _, _], _ => rfl
  obtain ⟨d, lay, ns, cl, rfl, hc, D, W, lim, q⟩ := h
  obtain ⟨i, x, y, u, v, m, rfl, rfl⟩ : ∃ i x y u v m, ns = [i, x, y, u, v, m] ∧ cl = .mask i x y u v m := by
    match ns, hc with
    | [a1, a2, a3, a4, a5, a6], hc => exact ⟨a1, a2, a3, a4, a5, a6, rfl, (Option.some.inj hc).symm⟩
  have nd := sc_set_mask.nd
  have I := W.ids
  refine ⟨_, (pss_cons (ps_set (i := 7) nd rfl (Or.inl rfl) (pm (pv 0) T.cD M_find_layer (hr.mono (by omega)) (passes_call (takes_of rfl rfl rfl rfl) (fun _ _ _ _ h => h)) (pa_cons (pv 1) pa_nil))) (pss_cons (ps_expr (pc G_check_setting (hr.mono (by omega)) (passes_call (takes_of rfl rfl rfl rfl) (fun _ _ _ _ h => h)) (pa_cons (pv 6) (pa_cons (pgI T.c_HIGHEST_BYTE) pa_nil)))) (pss_cons (ps_for (passes_of rfl) rfl (pi_list (pm (pv 0) T.cD M_box (hr.mono (by omega)) pass0 (pa_cons (pv 2) (pa_cons (pv 3) (pa_cons (pv 4) (pa_cons (pv 5) pa_nil)))))) (pg_name (i := 8) nd rfl (Or.inl rfl)) (pss_one (ps_asg (pv 6) (pg_sub (pfld (K := K) (pv 7) rfl) (pv 8) set_list)))) (pss_one (ps_ret (pe_lst (pa_cons pe_int pa_nil))))))), ?_⟩
  obtain ⟨dx, hd⟩ := D.s.i.doc
  have st : Ie02.step d (.mask i x y u v m) = match d.find i with
      | none => (d, [-2])
      | some _ => if 255 < m then (d, [-3]) else (d.edit i fun l => { l with mask := Ie02.boxed d.w x y u v m l.mask }, [0]) := rfl
  rw [st] at q
  refine ⟨_, rfl, lay 0 0, dx, _, rfl, hd, rfl, _, rfl, d, lay, i, rfl, D.s.i, I, fun h => q.err 2 H (by decide) (by decide) (by rw [h]; rfl) (Same.refl _), fun l h => ?_⟩
  rw [h] at q
  obtain ⟨hl, rfl⟩ := find_mem h
  have q : After K c e d lay H Q E (if 255 < m then (d, [-3]) else (d.edit l.id fun l => { l with mask := Ie02.boxed d.w x y u v m l.mask }, [0])) := q
  refine ⟨_, rfl, m, 255, rfl, fun h => q.err 3 H (by decide) (by decide) (if_pos h) (Same.refl _), fun h1 => ?_⟩
  rw [if_neg (by omega)] at q
  refine ⟨_, rfl, lay 0 0, dx, _, rfl, hd, rfl, _, rfl, _, rfl, _, rfl, _, rfl, d, lay, x, y, u, v, rfl, ⟨dx, hd⟩, W.w6, W.h6, lim _ (by simp), lim _ (by simp), fun B H1 hB s1 hb => ?_⟩
  have D1 := D.mono s1
  have lo := W.ok l hl
  have nB : ∀ {i p : Nat}, Used d i p → lay i p ≠ B := fun hu e => by
    obtain ⟨u, h, _⟩ := D.s.noT hu
    rw [e, hB] at h
    cases h
  refine ⟨B, rfl, ⟨_, .of hb⟩, ?_⟩
  refine for_list (K := K) (a := B) (xs := natV (boxP d x y u v)) (fun j σ H' => ∃ z, Kp [(l.id, 1)] lay H1 H' ∧ H' (lay l.id 1) = some (.lst (natV (setAll m ((boxP d x y u v).take j) l.mask))) ∧ H' B = some (.lst (natV (boxP d x y u v))) ∧
      σ = [some (.ref (lay 0 0)), some (.int (l.id : Int)), some (.int (x : Int)), some (.int (y : Int)), some (.int (u : Int)), some (.int (v : Int)), some (.int (m : Int)), some (.ref (lay l.id 0)), z]) ⟨none, Kp.refl, D1.s.k l hl, hb, rfl⟩ (fun j σ H' _ ⟨_, _, _, h, _⟩ => .of h) ?_ ?_
  · rintro j a σ H' ha ⟨z, k1, a1, a2, rfl⟩
    obtain ⟨n, hn, rfl⟩ := natV_at ha
    have nlt := mem_lt W.w1 hn
    obtain ⟨dl, il⟩ := D1.s.i.ins l hl
    have il2 := k1.at_ D.inj (fun x hx => by rw [List.mem_singleton.mp hx]; exact usedL hl (Nat.le_refl _)) (usedL hl (Nat.zero_le _)) (by simp) il
    refine ⟨_, rfl, _, rfl, _, _, _, _, _, rfl, il2, T.cO _, T.nO _ _ (inBase (by decide) _), rfl, _, rfl, lay l.id 1, _, (n : Int), n, rfl, rfl, a1, ix_nat (by rw [natV_length, setAll_len, lo.mlen]; exact nlt), ?_⟩
    refine ⟨_, k1.upd (i := l.id) (p := 1) (by simp), ?_, ?_, rfl⟩
    · rw [upd_same, take_more hn, setAll_more]
      unfold natV
      rw [List.map_set]
    · rw [upd_ne (nB (usedL hl (Nat.le_refl _))).symm]; exact a2
  · rintro σ H' ⟨z, k1, a1, a2, rfl⟩
    rw [natV_length, List.take_length, ← boxed_eq W.w1 lo.mlen] at a1
    have us : ∀ x ∈ [(l.id, 1)], Used d x.1 x.2 := fun x hx => by rw [List.mem_singleton.mp hx]; exact usedL hl (Nat.le_refl _)
    have tm : Tame (fun l : Layer => { l with mask := Ie02.boxed d.w x y u v m l.mask }) := ⟨fun _ => rfl, fun _ => rfl, fun _ => rfl⟩
    obtain ⟨dl, il⟩ := D1.s.i.ins l hl
    have D2 : DocH K c H' (d.edit l.id fun l => { l with mask := Ie02.boxed d.w x y u v m l.mask }) lay := edit_doc D1 I hl tm k1 (fun x hx => by rw [List.mem_singleton.mp hx]; exact ⟨rfl, usedL hl (Nat.le_refl _), fun h => by cases h⟩)
      ⟨dl, k1.at_ D.inj us (usedL hl (Nat.zero_le _)) (by simp) il⟩ a1 fun hk => by
        obtain ⟨xs, h, cs⟩ := D1.s.p l hl hk
        exact ⟨xs, k1.at_ D.inj us (usedC hl (by rw [hk]; rfl)) (by simp) h, L2.Paired.mapP cs fun _ _ x => k1.cell (D1.s.noTs us) x⟩
    refine ⟨(by show 1 ≤ sizeLine; decide), op_fin q D2 ⟨fun a u h n => k1.away us (s1 _ _ h) n, fun a f => .inl (edit_foot tm f)⟩ rfl fun a f _ => ?_⟩
    obtain ⟨i, p, hu, rfl⟩ := f
    obtain ⟨u, h, _⟩ := D2.s.noT ((edit_used tm).mpr hu)
    exact ⟨u, h⟩
end
end LH

set_option Elab.async false
set_option linter.all false
set_option maxRecDepth 100000
set_option maxHeartbeats 400000
namespace LH
open PySem PySem.Spec PyProof.Rows L2
open Ie02 (Frac Px Colour Doc Layer)
open LM
section
variable {P : Program} {w : World} {K : PySem.W.Frag} {mg : Str → Option Value} {base : Heap} {c : CAd} {e : Nat → Addr}
def cPaint : List Nat → Option Ie02.Call | [i, x, y, u, v, r, g, b, a] => some (.paint i x y u v r g b a) | _ => none
theorem norm_norm (q : Nat × Nat × Nat × Nat) : normQ (normQ q) = normQ q := by
  unfold normQ
  by_cases h : q.2.2.2 = 0
  · rw [if_pos h]
    rfl
  · rw [if_neg h, if_neg h]
abbrev s_paint : Stmt := topS 73
abbrev N_paint : List Str := ["document", "number", "x", "y", "width", "height", "red", "green", "blue", "alpha", "layer", "byte", "painted", "place"]
abbrev P_paint : List Str := ["document", "number", "x", "y", "width", "height", "red", "green", "blue", "alpha"]
theorem sc_paint : FnScope N_paint P_paint (defScope s_paint) := ⟨rfl, rfl, rfl, by decide +kernel, rfl, by decide +kernel, by decide +kernel⟩
theorem norm_dec {r g b a : Nat} : normQ (r, g, b, a) = if a = 0 then (0, 0, 0, 0) else (r, g, b, a) := rfl
theorem paint_rest {KX : PySem.W.Frag} (hKX : KX = K) (T : TC K mg c (e 2)) {H Hs : Hp} {d : Doc} {lay : Lay} {l : Layer} {x y u v : Nat} {qn : Nat × Nat × Nat × Nat} {Q : VK} {E : XK} {s1_ s6 s7 s8 s9 s11 : Option V} {pA : Addr} {Dn : Ends}
    (D : DocH K c H d lay) (W : WF d) (hl : l ∈ d.layers) (hk : l.kind = .picture) (lx : x < 2 ^ 32) (ly : y < 2 ^ 32) (s : Same H Hs) (hp : SqT K Hs pA (natV (fourL (normQ qn))))
    (q : After K c e d lay H Q E (d.edit l.id fun l => { l with cells := Ie02.boxed d.w x y u v qn l.cells }, [0])) (hD : Dn.rt = Q) :
    tSeq
          (tFor
            (iList KX
              (tMt c.D (Str.ofString "box") (spBox c) E0 (tVar 0)
                (tCons (tVar 2) (tCons (tVar 3) (tCons (tVar 4) (tCons (tVar 5) tNil))))))
            (gName 13) (tAsg (tVar 12) (gSub (tFld K (tVar 10) (Str.ofString "pixels")) (tVar 13) rSetL)))
          (tRet (tLst (tCons (tC (V.int 0)) tNil))) Dn [some (V.ref (lay 0 0)), s1_, some (V.int x), some (V.int y), some (V.int u), some (V.int v), s6, s7, s8, s9, some (V.ref (lay l.id 0)), s11, some (V.ref pA), none] Hs := by
  subst hKX hD
  have Ds := D.mono s
  have I := W.ids
  obtain ⟨dx, hd⟩ := Ds.s.i.doc
  refine ⟨_, rfl, lay 0 0, dx, _, rfl, hd, rfl, _, rfl, _, rfl, _, rfl, _, rfl, d, lay, x, y, u, v, rfl, ⟨dx, hd⟩, W.w6, W.h6, lx, ly, fun B H1 hB s1 hb => ?_⟩
  have D1 := Ds.mono s1
  have lo := W.ok l hl
  have nB : ∀ {i p : Nat}, Used d i p → lay i p ≠ B := fun hu e => by
    obtain ⟨u, h, _⟩ := Ds.s.noT hu
    rw [e, hB] at h
    cases h
  have uc : Used d l.id 2 := usedC hl (by rw [hk]; rfl)
  have us : ∀ x ∈ [(l.id, 2)], Used d x.1 x.2 := fun x hx => by rw [List.mem_singleton.mp hx]; exact uc
  have nt := D1.s.noTs us
  have cell : CellAt KX H1 (.ref pA) qn := ⟨pA, rfl, Same.seqT s1 hp⟩
  obtain ⟨xs0, hx0, cs0⟩ := D1.s.p l hl hk
  refine ⟨B, rfl, ⟨_, .of hb⟩, ?_⟩
  refine for_list (K := KX) (a := B) (xs := natV (boxP d x y u v)) (fun j σ H' => ∃ z xs, Kp [(l.id, 2)] lay H1 H' ∧ H' (lay l.id 2) = some (.lst xs) ∧ Paired (CellAt KX H1) xs (setAll qn ((boxP d x y u v).take j) l.cells) ∧ H' B = some (.lst (natV (boxP d x y u v))) ∧
      σ = [some (V.ref (lay 0 0)), s1_, some (V.int x), some (V.int y), some (V.int u), some (V.int v), s6, s7, s8, s9, some (V.ref (lay l.id 0)), s11, some (V.ref pA), z]) ⟨none, xs0, Kp.refl, hx0, cs0, hb, rfl⟩ (fun j σ H' _ ⟨_, _, _, _, _, h, _⟩ => .of h) ?_ ?_
  · rintro j a σ H' ha ⟨z, xs, k1, a1, pr, a2, rfl⟩
    obtain ⟨n, hn, rfl⟩ := natV_at ha
    have nlt := mem_lt W.w1 hn
    obtain ⟨dl, il⟩ := D1.s.i.ins l hl
    have il2 := k1.at_ D.inj us (usedL hl (Nat.zero_le _)) (by simp) il
    have il3 := insK il2 hk
    have xl : xs.length = d.w * d.h := by rw [pr.length, setAll_len, lo.clen]
    refine ⟨_, rfl, _, rfl, _, _, _, _, _, rfl, il3, T.cO (.picture), T.nO (.picture) _ (show _ ∈ namesR by decide), rfl, _, rfl, lay l.id 2, _, (n : Int), n, rfl, rfl, a1, ix_nat (by rw [xl]; exact nlt), ?_⟩
    refine ⟨_, _, k1.upd (i := l.id) (p := 2) (by simp), upd_same, ?_, ?_, rfl⟩
    · rw [take_more hn, setAll_more]
      exact paired_set cell n pr
    · rw [upd_ne (nB uc).symm]; exact a2
  · rintro σ H' ⟨z, xs, k1, a1, pr, a2, rfl⟩
    rw [natV_length, List.take_length, ← boxed_eq W.w1 lo.clen] at pr
    have tm : Tame (fun l : Layer => { l with cells := Ie02.boxed d.w x y u v qn l.cells }) := ⟨fun _ => rfl, fun _ => rfl, fun _ => rfl⟩
    obtain ⟨dl, il⟩ := D1.s.i.ins l hl
    have D2 : DocH KX c H' (d.edit l.id fun l => { l with cells := Ie02.boxed d.w x y u v qn l.cells }) lay := edit_doc D1 I hl tm k1 (fun x hx => by rw [List.mem_singleton.mp hx]; exact ⟨rfl, uc, fun _ => hk⟩)
      ⟨dl, k1.at_ D.inj us (usedL hl (Nat.zero_le _)) (by simp) il⟩ (k1.at_ D.inj us (usedL hl (Nat.le_refl _)) (by simp) (D1.s.k l hl)) fun _ => ⟨xs, a1, L2.Paired.mapP pr fun _ _ x => k1.cell nt x⟩
    refine ⟨(by show 1 ≤ sizeLine; decide), op_fin q D2 ⟨fun a u h n => k1.away us (s1 _ _ (s _ _ h)) n, fun a f => .inl (edit_foot tm f)⟩ rfl fun a f _ => ?_⟩
    obtain ⟨i, p, hu, rfl⟩ := f
    obtain ⟨u, h, _⟩ := D2.s.noT ((edit_used tm).mpr hu)
    exact ⟨u, h⟩
theorem d_paint (T : TO K mg c e) (M_find_layer : MetAt P w K mg base (L2.CX P w) 38 c.D "find_layer" P_Document_find_layer (spFind c (e 2))) (G_check_setting : DefAt P w K mg base (L2.CX P w) 38 "check_setting" P_check_setting (spSet e)) (M_box : MetAt P w K mg base CX0 38 c.D "box" P_Document_box (spBox c))
    (G_empty_pixel : DefAt P w K mg base CX0 38 "empty_pixel" P_empty_pixel spEmpty) (F : TopFn K mg "paint" "paint" s_paint P_paint) : DefAt P w K mg base (L2.CX P w) 42 "paint" P_paint (spOp K c e cPaint) := by
  refine F.okX sc_paint (fun vs H Q E h => ?_) (fun fa cdv A outer s H vs Q E hr h => ?_)
  · obtain ⟨_, _, ns, _, rfl, hc, _⟩ := h
    match ns, hc with
    | [_, _, _, _, _, _, _, _, _], _ => rfl
  obtain ⟨d, lay, ns, cl, rfl, hc, D, W, lim, q⟩ := h
  obtain ⟨i, x, y, u, v, r, g, b, a, rfl, rfl⟩ : ∃ i x y u v r g b a, ns = [i, x, y, u, v, r, g, b, a] ∧ cl = .paint i x y u v r g b a := by
    match ns, hc with
    | [a1, a2, a3, a4, a5, a6, a7, a8, a9], hc => exact ⟨a1, a2, a3, a4, a5, a6, a7, a8, a9, rfl, (Option.some.inj hc).symm⟩
  have nd := sc_paint.nd
  have I := W.ids
  refine ⟨_, (pss_cons (ps_set (i := 10) nd rfl (Or.inl rfl) (pm (pv 0) T.cD M_find_layer (hr.mono (by omega)) (passes_call (takes_of rfl rfl rfl rfl) (fun _ _ _ _ h => h)) (pa_cons (pv 1) pa_nil))) (pss_cons (ps_if (pt_not (pt_val (pe_callB call_isi (by rfl) T.n_isinstance (by decide +kernel) (pa_cons (pv 10) (pa_cons (pe_glob (v := .ref _) rfl T.c_RasterLayer rfl) pa_nil))))) (pss_one (praise T.x_NoSuchLayer (takes_of rfl rfl rfl rfl))) pss_nil) (pss_cons (ps_for (passes_of rfl) rfl (pi_tup (pe_tup (pa_cons (pv 6) (pa_cons (pv 7) (pa_cons (pv 8) (pa_cons (pv 9) pa_nil)))))) (pg_name (i := 11) nd rfl (Or.inl rfl)) (pss_one (ps_expr (pc G_check_setting (hr.mono (by omega)) (passes_call (takes_of rfl rfl rfl rfl) (fun _ _ _ _ h => h)) (pa_cons (pv 11) (pa_cons (pgI T.c_HIGHEST_BYTE) pa_nil)))))) (pss_cons (ps_set (i := 12) nd rfl (Or.inl rfl) (pe_tup (pa_cons (pv 6) (pa_cons (pv 7) (pa_cons (pv 8) (pa_cons (pv 9) pa_nil)))))) (pss_cons (ps_if (pt_cmpR op_eq (pv 9) pe_int (nomark _)) (pss_one (ps_set (i := 12) nd rfl (Or.inl rfl) (pc0 G_empty_pixel (hr.mono (by omega)) pass0))) pss_nil) (pss_cons (ps_for (passes_of rfl) rfl (pi_list (pm (pv 0) T.cD M_box (hr.mono (by omega)) pass0 (pa_cons (pv 2) (pa_cons (pv 3) (pa_cons (pv 4) (pa_cons (pv 5) pa_nil)))))) (pg_name (i := 13) nd rfl (Or.inl rfl)) (pss_one (ps_asg (pv 12) (pg_sub (pfld (K := K) (pv 10) rfl) (pv 13) set_list)))) (pss_one (ps_ret (pe_lst (pa_cons pe_int pa_nil)))))))))), ?_⟩
  obtain ⟨dx, hd⟩ := D.s.i.doc
  have st : Ie02.step d (.paint i x y u v r g b a) = match d.find i with
      | none => (d, [-2])
      | some l => if Ie02.isPicture l = false then (d, [-2]) else if 255 < r ∨ 255 < g ∨ 255 < b ∨ 255 < a then (d, [-3]) else (d.edit i fun l => { l with cells := Ie02.boxed d.w x y u v (r, g, b, a) l.cells }, [0]) := rfl
  rw [st] at q
  refine ⟨_, rfl, lay 0 0, dx, _, rfl, hd, rfl, _, rfl, d, lay, i, rfl, D.s.i, I, fun h => q.err 2 H (by decide) (by decide) (by rw [h]; rfl) (Same.refl _), fun l h => ?_⟩
  rw [h] at q
  obtain ⟨hl, rfl⟩ := find_mem h
  have q : After K c e d lay H Q E (if Ie02.isPicture l = false then (d, [-2]) else if 255 < r ∨ 255 < g ∨ 255 < b ∨ 255 < a then (d, [-3]) else (d.edit l.id fun l => { l with cells := Ie02.boxed d.w x y u v (r, g, b, a) l.cells }, [0])) := q
  obtain ⟨dl, il⟩ := D.s.i.ins l hl
  refine ⟨_, rfl, _, _, _, _, _, rfl, .own _, T.ty il, T.isR _, _, rfl, ?_⟩
  by_cases hk : l.kind = .picture
  · have ip : Ie02.isPicture l = true := by
      unfold Ie02.isPicture
      rw [hk]
      rfl
    rw [if_neg (by rw [ip]; decide)] at q
    refine (if_neg (by simp [hk])).mpr ?_
    refine ⟨_, rfl, _, rfl, _, rfl, _, rfl, (by show 4 ≤ sizeLine; decide), fun t ht => ⟨t, rfl, ⟨_, .of upd_same⟩, ?_⟩⟩
    have s1 : Same H (upd H t (.tup (natV [r, g, b, a]))) := Same.new ht
    have hT : upd H t (.tup (natV [r, g, b, a])) t = some (.tup (natV [r, g, b, a])) := upd_same
    have bad : ∀ n ∈ [r, g, b, a], 255 < n → (255 < r ∨ 255 < g ∨ 255 < b ∨ 255 < a) := fun n hn h => by
      simp only [List.mem_cons, List.not_mem_nil, or_false] at hn
      rcases hn with rfl | rfl | rfl | rfl
      · exact .inl h
      · exact .inr (.inl h)
      · exact .inr (.inr (.inl h))
      · exact .inr (.inr (.inr h))
    refine for_tup (K := K) (a := t) (xs := natV [r, g, b, a]) (fun j σ H' => ∃ z, H' = upd H t (.tup (natV [r, g, b, a])) ∧ (∀ n ∈ [r, g, b, a].take j, n ≤ 255) ∧
      σ = [some (.ref (lay 0 0)), some (.int (l.id : Int)), some (.int (x : Int)), some (.int (y : Int)), some (.int (u : Int)), some (.int (v : Int)), some (.int (r : Int)), some (.int (g : Int)), some (.int (b : Int)), some (.int (a : Int)), some (.ref (lay l.id 0)), z, none, none])
      ⟨none, rfl, (fun n h => by cases h), rfl⟩ (fun j σ H' _ ⟨_, h, _⟩ => by rw [h]; exact .of upd_same) ?_ ?_
    · rintro j z σ H' hj ⟨z0, rfl, all, rfl⟩
      obtain ⟨n, hn, rfl⟩ := natV_at hj
      refine ⟨_, rfl, n, 255, rfl, fun h => q.err 3 _ (by decide) (by decide) (if_pos (bad n (List.mem_of_getElem? hn) h)) s1, fun h => ⟨_, rfl, fun m hm => ?_, rfl⟩⟩
      rw [take_more hn] at hm
      rcases List.mem_append.mp hm with hm | hm
      · exact all m hm
      · rw [List.mem_singleton.mp hm]; exact h
    · rintro σ H' ⟨z0, rfl, all, rfl⟩
      have all : ∀ n ∈ [r, g, b, a], n ≤ 255 := all
      rw [if_neg (fun h => by
        have h1 := all r (by simp)
        have h2 := all g (by simp)
        have h3 := all b (by simp)
        have h4 := all a (by simp)
        omega)] at q
      generalize upd H t (.tup (natV [r, g, b, a])) = H1 at s1
      refine ⟨_, rfl, _, rfl, _, rfl, _, rfl, (by show 4 ≤ sizeLine; decide), fun t2 ht2 => ?_⟩
      have s2 : Same H1 (upd H1 t2 (.tup (natV [r, g, b, a]))) := Same.new ht2
      have hT2 : upd H1 t2 (.tup (natV [r, g, b, a])) t2 = some (.tup (natV [r, g, b, a])) := upd_same
      refine ⟨_, rfl, rfl, _, rfl, ?_⟩
      by_cases c0 : a = 0
      · refine (if_pos (by simp; omega)).mpr ?_
        refine ⟨rfl, fun t3 ht3 => ?_⟩
        refine paint_rest rfl T.toTC D W hl hk (lim _ (by simp)) (lim _ (by simp)) ((s1.trans s2).trans (Same.new ht3)) (.of ?_) q rfl
        rw [upd_same, norm_dec, if_pos c0]
        rfl
      · refine (if_neg (by simp; omega)).mpr ?_
        refine paint_rest rfl T.toTC D W hl hk (lim _ (by simp)) (lim _ (by simp)) (s1.trans s2) (.of ?_) q rfl
        rw [norm_dec, if_neg c0]
        exact hT2
  · refine (if_pos (by simp [hk])).mpr ?_
    refine q.err 2 H (by decide) (by decide) (if_pos ?_) (Same.refl _)
    unfold Ie02.isPicture
    simpa using hk
end
end LH

set_option Elab.async false
set_option linter.all false
set_option maxRecDepth 100000
set_option maxHeartbeats 400000
namespace LH
open PySem PySem.Spec PyProof.Rows L2
open Ie02 (Frac Px Colour Doc Layer)
open LM
section
variable {P : Program} {w : World} {K : PySem.W.Frag} {mg : Str → Option Value} {base : Heap} {c : CAd} {e : Nat → Addr}
def cSet : List Nat → Option Ie02.Call | [i, m, o, cl, sh] => some (.set i m o cl sh) | _ => none
theorem bit_eq {n : Nat} (h : n ≤ 1) : (n == 1).toNat = n := by
  rcases (show n = 0 ∨ n = 1 by omega) with rfl | rfl <;> rfl
abbrev s_set_layer : Stmt := topS 75
abbrev N_set_layer : List Str := ["document", "number", "mode", "opacity", "clip", "visible", "layer"]
abbrev P_set_layer : List Str := ["document", "number", "mode", "opacity", "clip", "visible"]
theorem sc_set_layer : FnScope N_set_layer P_set_layer (defScope s_set_layer) := ⟨rfl, rfl, rfl, by decide +kernel, rfl, by decide +kernel, by decide +kernel⟩
def setG (m o cl sh : Nat) (l : Layer) : Layer := { l with mode := m, opacity := o, clip := cl == 1, shown := sh == 1 }
theorem set_flds {l : Layer} {ly : Nat → Addr} {m o cl sh : Nat} (h1 : cl ≤ 1) (h2 : sh ≤ 1) : putF "visible" (V.int (sh : Int)) (putF "clip" (V.int (cl : Int)) (putF "opacity" (V.int (o : Int)) (putF "mode" (V.int (m : Int)) (flds l ly)))) = flds (setG m o cl sh l) ly := by
  have e : flds (setG m o cl sh l) ly = ([("parent", .int (l.parent : Int)), ("mode", .int (m : Int)), ("opacity", .int (o : Int)), ("clip", .int ((cl == 1).toNat : Int)), ("visible", .int ((sh == 1).toNat : Int)), ("mask", .ref (ly 1))] : List (Str × V)) ++ restF l.kind (ly 2) := rfl
  rw [e, bit_eq h1, bit_eq h2]
  rfl
theorem putF_len (f : Str) (v : V) : ∀ gs : List (Str × V), (putF f v gs).length ≤ gs.length + 1
  | [] => Nat.le_refl _
  | (g, y) :: r => by
    unfold putF
    split
    · exact Nat.le_succ _
    · exact Nat.succ_le_succ (putF_len f v r)
theorem flds_len8 (l : Layer) (ly : Nat → Addr) : (flds l ly).length ≤ 8 := by
  unfold flds restF baseF
  cases l.kind <;> (rw [List.length_append]; simp only [List.length_cons, List.length_nil]; omega)
theorem set_rest {KX : PySem.W.Frag} (hKX : KX = K) (T : TC K mg c (e 2)) {H : Hp} {d : Doc} {lay : Lay} {l : Layer} {m o cp sh : Nat} {Q : VK} {E : XK} {s1_ : Option V} {Dn : Ends} (D : DocH K c H d lay) (W : WF d) (hl : l ∈ d.layers) (h3 : cp ≤ 1) (h4 : sh ≤ 1)
    (q : After K c e d lay H Q E (d.edit l.id (setG m o cp sh), [0])) (hD : Dn.rt = Q) :
    tSeq (sFld KX (tVar 6) (tVar 2) (Str.ofString "mode")) (tSeq (sFld KX (tVar 6) (tVar 3) (Str.ofString "opacity")) (tSeq (sFld KX (tVar 6) (tVar 4) (Str.ofString "clip")) (tSeq (sFld KX (tVar 6) (tVar 5) (Str.ofString "visible")) (tRet (tLst (tCons (tC (V.int 0)) tNil))))))
      Dn [some (V.ref (lay 0 0)), s1_, some (V.int m), some (V.int o), some (V.int cp), some (V.int sh), some (V.ref (lay l.id 0))] H := by
  subst hKX hD
  have I := W.ids
  obtain ⟨dl, il⟩ := D.s.i.ins l hl
  have l8 := flds_len8 l (lay l.id)
  have len : ∀ {f : Str} {v : V} {gs : List (Str × V)} {n : Nat}, gs.length ≤ n → (putF f v gs).length ≤ n + 1 := fun h => Nat.le_trans (putF_len _ _ _) (Nat.succ_le_succ h)
  have na : ∀ f ∈ baseN, NoAttr KX (c.of l.kind) f := fun f hf => T.nO l.kind f (inBase hf l.kind)
  refine ⟨_, rfl, _, rfl, lay l.id 0, _, dl, _, rfl, il, T.cO _, na _ (by decide), Nat.lt_of_le_of_lt l8 (by decide), ?_⟩
  refine ⟨_, rfl, _, rfl, lay l.id 0, _, dl, _, rfl, upd_same, T.cO _, na _ (by decide), Nat.lt_of_le_of_lt (len l8) (by decide), ?_⟩
  refine ⟨_, rfl, _, rfl, lay l.id 0, _, dl, _, rfl, upd_same, T.cO _, na _ (by decide), Nat.lt_of_le_of_lt (len (len l8)) (by decide), ?_⟩
  refine ⟨_, rfl, _, rfl, lay l.id 0, _, dl, _, rfl, upd_same, T.cO _, na _ (by decide), Nat.lt_of_le_of_lt (len (len (len l8))) (by decide), ?_⟩
  rw [upd_upd, upd_upd, upd_upd, set_flds h3 h4]
  have us : ∀ x ∈ [(l.id, 0)], Used d x.1 x.2 := fun x hx => by rw [List.mem_singleton.mp hx]; exact usedL hl (Nat.zero_le _)
  have nt := D.s.noTs us
  have k1 : Kp [(l.id, 0)] lay H (upd H (lay l.id 0) (.ins (c.of l.kind) dl (flds (setG m o cp sh l) (lay l.id)))) := Kp.refl.upd (by simp)
  have tm : Tame (setG m o cp sh) := ⟨fun _ => rfl, fun _ => rfl, fun _ => rfl⟩
  have D2 : DocH KX c (upd H (lay l.id 0) (.ins (c.of l.kind) dl (flds (setG m o cp sh l) (lay l.id)))) (d.edit l.id (setG m o cp sh)) lay := edit_doc D I hl tm k1 (fun x hx => by rw [List.mem_singleton.mp hx]; exact ⟨rfl, usedL hl (Nat.zero_le _), fun h => by cases h⟩)
    ⟨dl, upd_same⟩ (k1.at_ D.inj us (usedL hl (Nat.le_refl _)) (by simp) (D.s.k l hl)) fun hk => by
      obtain ⟨xs, h, cs⟩ := D.s.p l hl hk
      exact ⟨xs, k1.at_ D.inj us (usedC hl (by rw [hk]; rfl)) (by simp) h, L2.Paired.mapP cs fun _ _ x => k1.cell nt x⟩
  refine ⟨(by show 1 ≤ sizeLine; decide), op_fin q D2 ⟨fun a u h n => k1.away us h n, fun a f => .inl (edit_foot tm f)⟩ rfl fun a f _ => ?_⟩
  obtain ⟨i, p, hu, rfl⟩ := f
  obtain ⟨u, h, _⟩ := D2.s.noT ((edit_used tm).mpr hu)
  exact ⟨u, h⟩
theorem d_set_layer (T : TO K mg c e) (M_find_layer : MetAt P w K mg base (L2.CX P w) 38 c.D "find_layer" P_Document_find_layer (spFind c (e 2))) (G_check_setting : DefAt P w K mg base (L2.CX P w) 38 "check_setting" P_check_setting (spSet e))
    (F : TopFn K mg "set_layer" "set_layer" s_set_layer P_set_layer) : DefAt P w K mg base (L2.CX P w) 42 "set_layer" P_set_layer (spOp K c e cSet) := by
  refine F.okX sc_set_layer (fun vs H Q E h => ?_) (fun fa cdv A outer s H vs Q E hr h => ?_)
  · obtain ⟨_, _, ns, _, rfl, hc, _⟩ := h
    match ns, hc with
    | [_, _, _, _, _], _ => rfl
  obtain ⟨d, lay, ns, cl, rfl, hc, D, W, lim, q⟩ := h
  obtain ⟨i, m, o, cp, sh, rfl, rfl⟩ : ∃ i m o cp sh, ns = [i, m, o, cp, sh] ∧ cl = .set i m o cp sh := by
    match ns, hc with
    | [a1, a2, a3, a4, a5], hc => exact ⟨a1, a2, a3, a4, a5, rfl, (Option.some.inj hc).symm⟩
  have nd := sc_set_layer.nd
  have I := W.ids
  refine ⟨_, (pss_cons (ps_set (i := 6) nd rfl (Or.inl rfl) (pm (pv 0) T.cD M_find_layer (hr.mono (by omega)) (passes_call (takes_of rfl rfl rfl rfl) (fun _ _ _ _ h => h)) (pa_cons (pv 1) pa_nil))) (pss_cons (ps_expr (pc G_check_setting (hr.mono (by omega)) (passes_call (takes_of rfl rfl rfl rfl) (fun _ _ _ _ h => h)) (pa_cons (pv 2) (pa_cons (pgI T.c_HIGHEST_MODE) pa_nil)))) (pss_cons (ps_expr (pc G_check_setting (hr.mono (by omega)) (passes_call (takes_of rfl rfl rfl rfl) (fun _ _ _ _ h => h)) (pa_cons (pv 3) (pa_cons (pgI T.c_HIGHEST_BYTE) pa_nil)))) (pss_cons (ps_expr (pc G_check_setting (hr.mono (by omega)) (passes_call (takes_of rfl rfl rfl rfl) (fun _ _ _ _ h => h)) (pa_cons (pv 4) (pa_cons pe_int pa_nil)))) (pss_cons (ps_expr (pc G_check_setting (hr.mono (by omega)) (passes_call (takes_of rfl rfl rfl rfl) (fun _ _ _ _ h => h)) (pa_cons (pv 5) (pa_cons pe_int pa_nil)))) (pss_cons (ps_if (PW.pt (pw_and (pt_cmpR op_eq (pv 4) pe_int (nomark _)) (pw_and (pt_val (pe_callB call_isi (by rfl) T.n_isinstance (by decide +kernel) (pa_cons (pv 6) (pa_cons (pe_glob (v := .ref _) rfl T.c_Group rfl) pa_nil)))) (pw_and1 (pt_cmpR op_eq (pfld (K := K) (pv 6) rfl) pe_int (nomark _)))))) (pss_one (praise T.x_CannotClip (takes_of rfl rfl rfl rfl))) pss_nil) (pss_cons (ps_fld (pv 6) (pv 2) rfl) (pss_cons (ps_fld (pv 6) (pv 3) rfl) (pss_cons (ps_fld (pv 6) (pv 4) rfl) (pss_cons (ps_fld (pv 6) (pv 5) rfl) (pss_one (ps_ret (pe_lst (pa_cons pe_int pa_nil)))))))))))))), ?_⟩
  obtain ⟨dx, hd⟩ := D.s.i.doc
  have st : Ie02.step d (.set i m o cp sh) = match d.find i with
      | none => (d, [-2])
      | some l => if 12 ≤ m ∨ 255 < o ∨ 1 < cp ∨ 1 < sh then (d, [-3]) else if cp = 1 ∧ l.kind = .group true then (d, [-4]) else (d.edit i (setG m o cp sh), [0]) := rfl
  rw [st] at q
  refine ⟨_, rfl, lay 0 0, dx, _, rfl, hd, rfl, _, rfl, d, lay, i, rfl, D.s.i, I, fun h => q.err 2 H (by decide) (by decide) (by rw [h]; rfl) (Same.refl _), fun l h => ?_⟩
  rw [h] at q
  obtain ⟨hl, rfl⟩ := find_mem h
  have q : After K c e d lay H Q E (if 12 ≤ m ∨ 255 < o ∨ 1 < cp ∨ 1 < sh then (d, [-3]) else if cp = 1 ∧ l.kind = .group true then (d, [-4]) else (d.edit l.id (setG m o cp sh), [0])) := q
  refine ⟨_, rfl, m, 11, rfl, fun h => q.err 3 H (by decide) (by decide) (if_pos (by omega)) (Same.refl _), fun h1 => ?_⟩
  refine ⟨_, rfl, o, 255, rfl, fun h => q.err 3 H (by decide) (by decide) (if_pos (by omega)) (Same.refl _), fun h2 => ?_⟩
  refine ⟨_, rfl, cp, 1, rfl, fun h => q.err 3 H (by decide) (by decide) (if_pos (by omega)) (Same.refl _), fun h3 => ?_⟩
  refine ⟨_, rfl, sh, 1, rfl, fun h => q.err 3 H (by decide) (by decide) (if_pos (by omega)) (Same.refl _), fun h4 => ?_⟩
  rw [if_neg (by omega)] at q
  obtain ⟨dl, il⟩ := D.s.i.ins l hl
  have ok : ¬ (cp = 1 ∧ l.kind = .group true) → After K c e d lay H Q E (d.edit l.id (setG m o cp sh), [0]) := fun h => by rw [if_neg h] at q; exact q
  refine ⟨_, rfl, rfl, _, rfl, ?_⟩
  by_cases c1 : cp = 1
  · refine (if_pos (by simp; omega)).mpr ?_
    refine ⟨_, rfl, _, _, _, _, _, rfl, .own _, T.ty il, T.isG _, _, rfl, ?_⟩
    cases hk : l.kind with
    | picture =>
      refine (if_neg (by simp)).mpr ((if_neg (by simp)).mpr ?_)
      exact set_rest rfl T.toTC D W hl h3 h4 (ok fun h => by rw [hk] at h; cases h.2) rfl
    | change x =>
      refine (if_neg (by simp)).mpr ((if_neg (by simp)).mpr ?_)
      exact set_rest rfl T.toTC D W hl h3 h4 (ok fun h => by rw [hk] at h; cases h.2) rfl
    | group t =>
      have il2 := insK il hk
      refine (if_pos (by rfl)).mpr ⟨_, rfl, _, _, _, _, _, rfl, il2, T.cO (.group t), T.nO (.group t) _ (show _ ∈ namesG by decide), rfl, rfl, _, rfl, ?_⟩
      cases t with
      | true => exact (if_pos (by rfl)).mpr (q.err 4 H (by decide) (by decide) (if_pos ⟨c1, hk⟩) (Same.refl _))
      | false =>
        refine (if_neg (by simp)).mpr ?_
        exact set_rest rfl T.toTC D W hl h3 h4 (ok fun h => by rw [hk] at h; cases h.2) rfl
  · refine (if_neg (by simp; omega)).mpr ((if_neg (by simp)).mpr ?_)
    exact set_rest rfl T.toTC D W hl h3 h4 (ok fun h => c1 h.1) rfl
end
end LH

set_option Elab.async false
set_option linter.all false
set_option maxRecDepth 100000
set_option maxHeartbeats 400000
namespace LH
open PySem PySem.Spec PyProof.Rows L2
open Ie02 (Frac Px Colour Doc Layer)
open LM
theorem inV_nat (p : Nat) (a : List Nat) : inV (.int (p : Int)) (natV a) = decide (p ∈ a) := by
  unfold inV natV
  rw [List.any_map]
  induction a with
  | nil => rfl
  | cons y r ih =>
    rw [List.any_cons, ih]
    by_cases h : p = y
    · subst h
      simp [eqV]
    · have h2 : ¬ (p : Int) = (y : Int) := by omega
      have h3 : ¬ (y : Int) = (p : Int) := by omega
      simp [eqV, h, h3]
theorem flat_nat (a : List Nat) : (natV a).all flatV = true := by
  unfold natV
  rw [List.all_map]
  exact List.all_eq_true.mpr fun _ _ => rfl
section
variable {P : Program} {w : World} {K : PySem.W.Frag} {mg : Str → Option Value} {base : Heap} {c : CAd} {e : Nat → Addr}
def cDrop : List Nat → Option Ie02.Call | [i] => some (.drop i) | _ => none
abbrev s_remove : Stmt := topS 77
abbrev N_remove : List Str := ["document", "number"]
abbrev P_remove : List Str := ["document", "number"]
theorem sc_remove : FnScope N_remove P_remove (defScope s_remove) := ⟨rfl, rfl, rfl, by decide +kernel, rfl, by decide +kernel, by decide +kernel⟩
theorem d_remove (T : TO K mg c e) (M_find_layer : MetAt P w K mg base (L2.CX P w) 38 c.D "find_layer" P_Document_find_layer (spFind c (e 2))) (M_take_out : MetAt P w K mg base CX0 41 c.D "take_out" P_Document_take_out (spTake K c))
    (F : TopFn K mg "remove" "remove" s_remove P_remove) : DefAt P w K mg base (L2.CX P w) 42 "remove" P_remove (spOp K c e cDrop) := by
  refine F.okX sc_remove (fun vs H Q E h => ?_) (fun fa cdv A outer s H vs Q E hr h => ?_)
  · obtain ⟨_, _, ns, _, rfl, hc, _⟩ := h
    match ns, hc with
    | [_], _ => rfl
  obtain ⟨d, lay, ns, cl, rfl, hc, D, W, lim, q⟩ := h
  obtain ⟨i, rfl, rfl⟩ : ∃ i, ns = [i] ∧ cl = .drop i := by
    match ns, hc with
    | [a1], hc => exact ⟨a1, rfl, (Option.some.inj hc).symm⟩
  have nd := sc_remove.nd
  have I := W.ids
  refine ⟨_, (pss_cons (ps_expr (pm (pv 0) T.cD M_find_layer (hr.mono (by omega)) (passes_call (takes_of rfl rfl rfl rfl) (fun _ _ _ _ h => h)) (pa_cons (pv 1) pa_nil))) (pss_one (ps_ret (pe_lst (pa_cons (pm (pv 0) T.cD M_take_out (hr.mono (by omega)) pass0 (pa_cons (pv 1) pa_nil)) pa_nil))))), ?_⟩
  obtain ⟨dx, hd⟩ := D.s.i.doc
  have st : Ie02.step d (.drop i) = match d.find i with
      | none => (d, [-2])
      | some _ => (dropD d i, [((d.layers.length - (dropD d i).layers.length : Nat) : Int)]) := rfl
  rw [st] at q
  refine ⟨_, rfl, lay 0 0, dx, _, rfl, hd, rfl, _, rfl, d, lay, i, rfl, D.s.i, I, fun h => q.err 2 H (by decide) (by decide) (by rw [h]; rfl) (Same.refl _), fun l h => ?_⟩
  rw [h] at q
  obtain ⟨hl, rfl⟩ := find_mem h
  obtain ⟨f, L⟩ := W.lev
  have q : After K c e d lay H Q E (dropD d l.id, [((d.layers.length - (dropD d l.id).layers.length : Nat) : Int)]) := q
  refine ⟨_, rfl, lay 0 0, dx, _, rfl, hd, rfl, _, rfl, d, lay, l, rfl, D, W, hl, fun H2 D2 aw dm => ⟨(by show 1 ≤ sizeLine; decide), fun D0 hD0 => ?_⟩⟩
  have s2 : Same H2 (upd H2 D0 (.lst [.int ((d.layers.length - (dropD d l.id).layers.length : Nat) : Int)])) := Same.new hD0
  refine q.ok D0 _ lay (D2.mono s2) ⟨fun a u h n => s2 _ _ (aw a u h n), fun a f => .inl (let ⟨i, p, u, e2⟩ := f; ⟨i, p, drop_used I L u, e2⟩)⟩ rfl (dm D0 hD0) upd_same fun f => ?_
  obtain ⟨u2, h2⟩ := foot_some D2.s f
  rw [hD0] at h2
  cases h2
end
end LH

set_option Elab.async false
set_option linter.all false
set_option maxRecDepth 100000
set_option maxHeartbeats 400000
namespace LH
open PySem PySem.Spec PyProof.Rows L2
open Ie02 (Frac Px Colour Doc Layer)
open LM
section
variable {P : Program} {w : World} {K : PySem.W.Frag} {mg : Str → Option Value} {base : Heap} {c : CAd} {e : Nat → Addr}
def cMove : List Nat → Option Ie02.Call | [i, p, k] => some (.move i p k) | _ => none
theorem filter_more {α : Type} (p : α → Bool) {l : List α} {i : Nat} {x : α} (h : l[i]? = some x) : (l.take (i + 1)).filter p = (l.take i).filter p ++ (if p x = true then [x] else []) := by
  rw [take_more h, List.filter_append]
  congr 1
  by_cases c : p x = true
  · rw [if_pos c, List.filter_cons_of_pos c]
    rfl
  · rw [if_neg c, List.filter_cons_of_neg c]
    rfl
abbrev s_move : Stmt := topS 76
abbrev N_move : List Str := ["document", "number", "parent", "position", "others", "other"]
abbrev P_move : List Str := ["document", "number", "parent", "position"]
theorem sc_move : FnScope N_move P_move (defScope s_move) := ⟨rfl, rfl, rfl, by decide +kernel, rfl, by decide +kernel, by decide +kernel⟩
theorem d_move (T : TO K mg c e) (M_find_layer : MetAt P w K mg base (L2.CX P w) 38 c.D "find_layer" P_Document_find_layer (spFind c (e 2))) (M_members_of : MetAt P w K mg base (L2.CX P w) 40 c.D "members_of" P_Document_members_of (spMem c (e 2)))
    (M_with_inner : MetAt P w K mg base CX0 38 c.D "with_inner" P_Document_with_inner (spInner c)) (M_level_in : MetAt P w K mg base CX0 38 c.D "level_in" P_Document_level_in (spLevel c)) (M_levels_of : MetAt P w K mg base CX0 40 c.D "levels_of" P_Document_levels_of (spLevels c))
    (M_put_into : MetAt P w K mg base CX0 41 c.D "put_into" P_Document_put_into (spInto K c)) (F : TopFn K mg "move" "move" s_move P_move) : DefAt P w K mg base (L2.CX P w) 42 "move" P_move (spOp K c e cMove) := by
  refine F.okX sc_move (fun vs H Q E h => ?_) (fun fa cdv A outer s H vs Q E hr h => ?_)
  · obtain ⟨_, _, ns, _, rfl, hc, _⟩ := h
    match ns, hc with
    | [_, _, _], _ => rfl
  obtain ⟨d, lay, ns, cl, rfl, hc, D, W, lim, q⟩ := h
  obtain ⟨i, p, k, rfl, rfl⟩ : ∃ i p k, ns = [i, p, k] ∧ cl = .move i p k := by
    match ns, hc with
    | [a1, a2, a3], hc => exact ⟨a1, a2, a3, rfl, (Option.some.inj hc).symm⟩
  have nd := sc_move.nd
  have I := W.ids
  obtain ⟨f, L⟩ := W.lev
  refine ⟨_, (pss_cons (ps_expr (pm (pv 0) T.cD M_find_layer (hr.mono (by omega)) (passes_call (takes_of rfl rfl rfl rfl) (fun _ _ _ _ h => h)) (pa_cons (pv 1) pa_nil))) (pss_cons (ps_setLc (i := 4) (own := [("other", 5)]) (g := gName 5) rfl nd rfl rfl (sw_true rfl rfl rfl (by decide +kernel)) (pi_list (pm (pv 0) T.cD M_members_of (hr.mono (by omega)) (passes_call (takes_of rfl rfl rfl rfl) (fun _ _ _ _ h => h)) (pa_cons (pv 2) pa_nil))) (blkOk_by (own := [("other", 5)]) (N := N_move) (sc := defScope s_move) (by decide +kernel)) (fun _ _ _ _ _ => pg_name (i := 5) nd rfl (Or.inl rfl)) (fun _ _ _ _ _ => (pts_one (pt_cmpR op_ne (pv 5) (pv 1) (nomark _)))) (fun _ _ _ _ _ => (pv 5))) (pss_cons (ps_if (pt_cmpR op_in_seq (pv 2) (pm (pv 0) T.cD M_with_inner (hr.mono (by omega)) pass0 (pa_cons (pv 1) pa_nil)) (by rfl)) (pss_one (praise T.x_NoSuchLayer (takes_of rfl rfl rfl rfl))) pss_nil) (pss_cons (ps_if (pt_cmpR op_gt (pe_op op_sub (pe_op op_add (pm (pv 0) T.cD M_level_in (hr.mono (by omega)) pass0 (pa_cons (pv 2) pa_nil)) (pm (pv 0) T.cD M_levels_of (hr.mono (by omega)) pass0 (pa_cons (pv 1) pa_nil))) pe_int) (pgI T.c_HIGHEST_LEVEL) (nomark _)) (pss_one (praise T.x_OutOfRange (takes_of rfl rfl rfl rfl))) pss_nil) (pss_cons (ps_if (pt_cmpR op_gt (pv 3) (pe_callB call_len_seq (by rfl) T.n_len (by decide +kernel) (pa_cons (pv 4) pa_nil)) (nomark _)) (pss_one (praise T.x_TooFewLayers (takes_of rfl rfl rfl rfl))) pss_nil) (pss_cons (ps_expr (pm (pv 0) T.cD M_put_into (hr.mono (by omega)) pass0 (pa_cons (pv 1) (pa_cons (pv 2) (pa_cons (pv 3) pa_nil))))) (pss_one (ps_ret (pe_lst (pa_cons pe_int pa_nil)))))))))), ?_⟩
  obtain ⟨dx, hd⟩ := D.s.i.doc
  have st : Ie02.step d (.move i p k) = match d.find i with
      | none => (d, [-2])
      | some l => if d.takes p = false ∨ d.within i (Ie02.LAYERS + 1) p = true then (d, [-2]) else if Ie02.LOW < d.depth Ie02.LAYERS p + d.height Ie02.LAYERS i then (d, [-1]) else
        if ((d.layers.filter fun y => y.id != i).filter fun y => y.parent == p).length < k then (d, [-5]) else ({ d with layers := Ie02.placed p { l with parent := p } k (d.layers.filter fun y => y.id != i) }, [0]) := rfl
  rw [st] at q
  refine ⟨_, rfl, lay 0 0, dx, _, rfl, hd, rfl, _, rfl, d, lay, i, rfl, D.s.i, I, fun h => q.err 2 H (by decide) (by decide) (by rw [h]; rfl) (Same.refl _), fun l h => ?_⟩
  rw [h] at q
  obtain ⟨hl, rfl⟩ := find_mem h
  have q : After K c e d lay H Q E (if d.takes p = false ∨ d.within l.id (Ie02.LAYERS + 1) p = true then (d, [-2]) else if Ie02.LOW < d.depth Ie02.LAYERS p + d.height Ie02.LAYERS l.id then (d, [-1]) else
        if ((d.layers.filter fun y => y.id != l.id).filter fun y => y.parent == p).length < k then (d, [-5]) else (moveD d l p k, [0])) := q
  refine ⟨_, rfl, lay 0 0, dx, _, rfl, hd, rfl, _, rfl, d, lay, p, rfl, D.s.i, I, fun h => q.err 2 H (by decide) (by decide) (if_pos (.inl h)) (Same.refl _), fun tk => ?_⟩
  have hp := (takes_iff I p).mp tk
  have hm := D.s.m p hp
  refine ⟨lay p 2, rfl, ⟨_, .of hm⟩, fun D0 hD0 => ?_⟩
  refine lc_list (K := K) (a := lay p 2) (xs := natV (kidIds d p)) (fun j H' => AccN H D0 (((kidIds d p).take j).filter fun x => x != l.id) H') (AccN.start hD0) (fun j H' _ acc => Same.seq acc.same (.of hm)) ?_ ?_
  · intro j x H' hj acc
    obtain ⟨n, hn, rfl⟩ := natV_at hj
    refine ⟨rfl, _, rfl, _, rfl, rfl, _, rfl, ?_⟩
    rw [filter_more _ hn]
    by_cases c0 : n = l.id
    · refine (if_neg (by simp; omega)).mpr ?_
      rw [if_neg (by simpa using c0), List.append_nil]
      exact acc
    · refine (if_pos (by simp; omega)).mpr ⟨_, rfl, ?_⟩
      rw [if_pos (by simpa using c0)]
      exact acc.step (k := n) (Same.refl _) (by
        have h1 := kids_len d p
        have h2 := W.len
        have h3 : (kidIds d p).length = (d.kids p).length := by unfold kidIds; rw [List.length_map]
        have h4 := List.length_filter_le (fun x => x != l.id) ((kidIds d p).take j)
        rw [List.length_take] at h4
        omega)
  intro H1 acc
  rw [natV_length, List.take_length] at acc
  have h0 := acc.at_
  have s1 := acc.same
  have D1 := D.mono s1
  obtain ⟨dx1, hd1⟩ := D1.s.i.doc
  refine ⟨_, rfl, _, rfl, lay 0 0, dx1, _, rfl, hd1, rfl, _, rfl, d, lay, f, l.id, rfl, D1.s.i, D1.s.m, I, L, W.len, ⟨l, hl, rfl⟩, fun D3 H3 found hD3 s3 h3 pf => ?_⟩
  refine ⟨D3, _, rfl, .inl (.of h3), rfl, flat_nat _, _, rfl, ?_⟩
  have wi := within_iff I L l.id (Ie02.LAYERS + 1) p (by have := L.le4 hp.known; show f p < 13; omega) hp.known
  have inn : p ∈ found ↔ d.within l.id (Ie02.LAYERS + 1) p = true := by
    rw [pf.mem_iff, sub_mem I L, wi]
    refine ⟨fun h => h.2, fun h => ⟨?_, h⟩⟩
    rcases hp.known with z | z
    · have h1 := h.lev L
      have h2 := L.pos hl
      rw [z, L.zero] at h1
      omega
    · exact z
  have s03 := s1.trans s3
  rw [inV_nat]
  by_cases c1 : p ∈ found
  · exact (if_pos (by simpa using c1)).mpr (q.err 2 H3 (by decide) (by decide) (if_pos (.inr (inn.mp c1))) s03)
  refine (if_neg (by simpa using c1)).mpr ?_
  have nw : ¬ (d.takes p = false ∨ d.within l.id (Ie02.LAYERS + 1) p = true) := fun h => by
    rcases h with h | h
    · rw [tk] at h; cases h
    · exact c1 (inn.mpr h)
  rw [if_neg nw] at q
  have D3s := D.mono s03
  obtain ⟨dx3, hd3⟩ := D3s.s.i.doc
  have de : d.depth Ie02.LAYERS p = f p := depth_eq I L _ _ (by have := L.le4 hp.known; show f p < 12; omega) hp.known
  rw [de] at q
  refine ⟨_, rfl, lay 0 0, dx3, _, rfl, hd3, rfl, _, rfl, d, lay, f, p, rfl, D3s.s.i, I, L, hp, ?_⟩
  refine ⟨_, rfl, lay 0 0, dx3, _, rfl, hd3, rfl, _, rfl, d, lay, f, l.id, rfl, D3s.s.i, D3s.s.m, I, L, W.len, ⟨l, hl, rfl⟩, fun H4 s4 => ?_⟩
  have s04 := s03.trans s4
  refine ⟨_, _, rfl, rfl, _, _, rfl, rfl, _, _, rfl, rfl, _, rfl, ?_⟩
  have e4 : Ie02.LOW = 4 := rfl
  by_cases c2 : Ie02.LOW < f p + d.height Ie02.LAYERS l.id
  · exact (if_pos (by simp; omega)).mpr (q.err 1 H4 (by decide) (by decide) (if_pos c2) s04)
  refine (if_neg (by simp; omega)).mpr ?_
  rw [if_neg c2] at q
  have h04 := s4 _ _ (s3 _ _ h0)
  have el : ((d.layers.filter fun y => y.id != l.id).filter fun y => y.parent == p).length = ((kidIds d p).filter fun x => x != l.id).length := by
    rw [← kidIds_filter, List.length_map]
  rw [el] at q
  refine ⟨_, rfl, _, rfl, D0, _, rfl, .inl (.of h04), _, _, rfl, rfl, _, rfl, ?_⟩
  rw [natV_length]
  by_cases c3 : ((kidIds d p).filter fun x => x != l.id).length < k
  · exact (if_pos (by simp; omega)).mpr (q.err 5 H4 (by decide) (by decide) (if_pos c3) s04)
  refine (if_neg (by simp; omega)).mpr ?_
  rw [if_neg c3] at q
  have D4 := D.mono s04
  obtain ⟨dx4, hd4⟩ := D4.s.i.doc
  refine ⟨_, rfl, lay 0 0, dx4, _, rfl, hd4, rfl, _, rfl, _, rfl, _, rfl, d, lay, l, p, k, rfl, D4, W, hl, hp, lim _ (by simp), fun H5 D5 aw => ?_⟩
  refine ⟨(by show 1 ≤ sizeLine; decide), op_fin q D5 ⟨fun a u h n => aw a u (s04 _ _ h) n, fun a ⟨i, j, u, e2⟩ => .inl ⟨i, j, move_used hl u, e2⟩⟩ rfl fun a ⟨i, j, hu, e2⟩ _ => ?_⟩
  have hu2 : Used (moveD d l p k) i j := by
    rcases hu with hu | ⟨m, hm2, rfl, r⟩
    · exact .inl hu
    · by_cases c5 : m.id = l.id
      · have := mem_unique I hm2 hl c5
        subst this
        exact .inr ⟨_, move_mem.mpr (.inl rfl), rfl, r⟩
      · exact .inr ⟨m, move_mem.mpr (.inr ⟨hm2, c5⟩), rfl, r⟩
  obtain ⟨u, h, _⟩ := D5.s.noT hu2
  exact ⟨u, by rw [← e2]; exact h⟩
end
end LH

set_option Elab.async false
set_option linter.all false
set_option maxRecDepth 100000
set_option maxHeartbeats 1000000
namespace LH
open PySem PySem.Spec PyProof.Rows L2
/-! xs.extend(t), t a tuple of any make -/
def tupO (dd : Option Addr) (ys : Array Value) (m : Nat) (sl : Array (Option Value)) : Obj := ⟨.type "tuple", dd, .seq ys m, sl⟩
def lstO (ys : Array Value) (m : Nat) : Obj := ⟨.type "list", none, .seq ys m, #[]⟩
theorem meets_extT (p q : Addr) (us vs : Array Value) (m k : Nat) (dd : Option Addr) (sl : Array (Option Value)) (z : us.size + vs.size ≤ sizeLine) (nl : (!us.isEmpty && Builtin.List.listTooLong (us.size + vs.size)) = false) :
    Meets (Builtin.«list.extend» ⟨.ref p :: [.ref q], []⟩) fun _ R s => (s.heap.get? p = some (lstO us m) ∧ s.heap.get? q = some (tupO dd vs k sl)) ∧ R (.ok (.ret .none)) { s with toks := s.toks, heap := s.heap.update p (Obj.mapSeq (· ++ vs)) } := by
  refine .of_wp fun P w A R s ⟨⟨hp, hq⟩, r⟩ => ?_
  obtain ⟨h0, g0, d0, t0, o0⟩ := s
  have hp : h0.get? p = some { cls := .type "list", dict := none, data := .seq us m, slots := #[] } := hp
  have hq : h0.get? q = some { cls := .type "tuple", dict := dd, data := .seq vs k, slots := sl } := hq
  have a1 := AutoSeq1.sub_tuple_tuple
  have a2 := AutoSeq1.sub_list_list
  have a3 := AutoSeq1.sub_tuple_list
  have a4 := AutoSeq1.sub_list_tuple
  have z1 : us.size ≤ sizeLine := by omega
  have z2 : (us ++ vs).size ≤ sizeLine + 1 := by rw [Array.size_append]; omega
  have nl : ¬ (!us.isEmpty && Builtin.List.listTooLong (us.size + vs.size)) = true := by rw [nl]; decide
  wp_walk using (wpAny_updateSeq hp rfl (hz := z1) (_hz' := z2)), wpAny_loadPart' hp, wpAny_loadPart' hq
  exact ⟨_, rfl, r⟩
section
variable {X : Cx}
def rExtT (K : PySem.W.Frag) : V → List V → Hp → VK → Prop := fun x vs H Q => ∃ (l b : Addr) (xs zs : List V), x = .ref l ∧ vs = [.ref b] ∧ H l = some (.lst xs) ∧ SqT K H b zs ∧ xs.length + zs.length ≤ sizeLine ∧ Q .non (upd H l (.lst (xs ++ zs)))
theorem mt_extT : MtR X "list.extend" (rExtT X.K) := by
  intro pins s σ H x vs v us Q I rx rv h
  obtain ⟨l, b, xs, zs, rfl, rfl, hH, hB, hz, q⟩ := h
  cases rx
  obtain ⟨u, rfl, ru⟩ := rv.one
  cases ru
  obtain ⟨z, its, n, r, hl, e⟩ := I.lstM hH
  obtain ⟨its2, r2, ⟨⟨cls, dd, data, sl⟩, e2, hc, n2, hd⟩, _⟩ := I.tuple hB
  simp only at hc hd
  subst hc hd
  have l1 := r.length
  have l2 := r2.length
  have hsz : its.toArray.size + its2.toArray.size ≤ sizeLine := by rw [List.size_toArray, List.size_toArray]; omega
  refine call_meets PySem.F.slot_list_extend ⟨_, e, rfl⟩ PySem.F.entry_list_extend (PySem.F.args_list_extend_2 _ _) (meets_extT l b its.toArray its2.toArray n n2 dd sl hsz (by rw [notLongL hsz, Bool.and_false])) ⟨⟨e, e2⟩, ?_⟩
  refine ⟨.non, _, I.lset (its' := its ++ its2) hH e (by simp) (r.append r2) ?_, rfl, q⟩
  rw [List.length_append]
  omega
end
end LH

set_option Elab.async false
set_option linter.all false
set_option maxRecDepth 100000
set_option maxHeartbeats 400000
namespace LH
open PySem PySem.Spec PyProof.Rows L2
open Ie02 (Frac Px Colour Doc Layer)
open LM
theorem AccN.more {H1 H H4 : Hp} {D : Addr} {ns ks : List Nat} (A : AccN H1 D ns H) (s : Same H H4) : H4 D = some (.lst (natV ns)) ∧ AccN H1 D (ns ++ ks) (upd H4 D (.lst (natV ns ++ natV ks))) := by
  refine ⟨s _ _ A.at_, Same.updNew (A.same.trans s) A.new, A.new, ?_⟩
  rw [upd_same, natV_append]
theorem range_flat {f : Nat → List Nat} (k : Nat) : (List.range (k + 1)).flatMap f = (List.range k).flatMap f ++ f k := by
  rw [List.range_succ, List.flatMap_append, List.flatMap_singleton]
theorem flat_len {f : Nat → List Nat} (h : ∀ k, (f k).length = 4) : ∀ n, ((List.range n).flatMap f).length = 4 * n
  | 0 => rfl
  | n + 1 => by rw [range_flat, List.length_append, flat_len h n, h]; omega
theorem ints_natV (ns : List Nat) : (Ie02.ints ns).map V.int = natV ns := by
  unfold Ie02.ints natV
  rw [List.map_map]
  rfl
section
variable {P : Program} {w : World} {K : PySem.W.Frag} {mg : Str → Option Value} {base : Heap} {c : CAd} {e : Nat → Addr}
/-- an operation that only reads ends -/
theorem read_fin {H H2 : Hp} {d : Doc} {lay : Lay} {Q : VK} {E : XK} {ns : List Nat} {D0 : Addr} (D : DocH K c H d lay) (q : After K c e d lay H Q E (d, Ie02.ints ns)) (A : AccN H D0 ns H2) : Q (.ref D0) H2 := by
  refine q.ok D0 H2 lay (D.mono A.same) (Trans.same A.same) rfl A.new ?_ fun f => ?_
  · rw [ints_natV]
    exact A.at_
  · obtain ⟨u, h⟩ := foot_some D.s f
    rw [A.new] at h
    cases h
theorem cell_up {d : Doc} (W : WF d) {i : Nat} (hi : i < d.w * d.h) (k p : Nat) : UP (d.paint k p i Ie02.nothing) := (paint_pot W.ok hi k p 120 _ (pot_nothing (Nat.le_refl _))).up
def spRead (K : PySem.W.Frag) (c : CAd) : Sp := fun vs H Q _ => ∃ (d : Doc) (lay : Lay), vs = [.ref (lay 0 0)] ∧ DocH K c H d lay ∧ WF d ∧ ∀ D0 H', AccN H D0 ((List.range (d.w * d.h)).flatMap fun i => Ie02.bytes (d.cell i)) H' → Q (.ref D0) H'
abbrev s_render : Stmt := topS 78
abbrev N_render : List Str := ["document", "numbers", "place"]
abbrev P_render : List Str := ["document"]
theorem sc_render : FnScope N_render P_render (defScope s_render) := ⟨rfl, rfl, rfl, by decide +kernel, rfl, by decide +kernel, by decide +kernel⟩
theorem d_render (T : TO K mg c e) (M_size : MetAt P w K mg base CX0 38 c.D "size" P_Document_size (spSize c)) (G_image_pixel : DefAt P w K mg base CX0 59 "image_pixel" P_image_pixel (spImage K c)) (G_bytes_of_pixel : DefAt P w K mg base CX0 40 "bytes_of_pixel" P_bytes_of_pixel (spBytes K))
    (F : TopFn K mg "render" "render" s_render P_render) : DefAt P w K mg base CX0 60 "render" P_render (spRead K c) := by
  refine F.ok sc_render (fun vs H Q E h => ?_) (fun fa cdv A outer s H vs Q E hr h => ?_)
  · obtain ⟨_, _, rfl, _⟩ := h; rfl
  obtain ⟨d, lay, rfl, D, W, q⟩ := h
  have nd := sc_render.nd
  refine ⟨_, (pss_cons (ps_set (i := 1) nd rfl (Or.inl rfl) (pe_lst pa_nil)) (pss_cons (ps_for PassesOwn.never rfl (pi_range1 rfl T.n_range (pa_cons (pm0 (pv 0) T.cD M_size (hr.mono (by omega)) pass0) pa_nil)) (pg_name (i := 2) nd rfl (Or.inl rfl)) (pss_one (ps_expr (pe_bm PySem.F.plainAttrs_list PySem.F.slot_list_extend PySem.F.type_list_extend mt_extend (pv 1) (pa_cons (pc G_bytes_of_pixel (hr.mono (by omega)) pass0 (pa_cons (pc G_image_pixel (hr.mono (by omega)) pass0 (pa_cons (pv 0) (pa_cons (pv 2) pa_nil))) pa_nil)) pa_nil))))) (pss_one (ps_ret (pv 1))))), ?_⟩
  obtain ⟨f, L⟩ := W.lev
  have a36 := area36 W
  refine ⟨(by show 0 ≤ sizeLine; decide), fun D0 hD0 => ?_⟩
  have A0 := AccN.start hD0
  obtain ⟨dx, hd⟩ := (D.mono A0.same).s.i.doc
  refine ⟨_, rfl, lay 0 0, dx, _, rfl, hd, rfl, d, lay, rfl, ⟨dx, hd⟩, W.w6, _, rfl, by omega, by omega, ?_⟩
  rw [Int.toNat_natCast]
  refine for_range (lo := 0) (n := d.w * d.h) (fun k σ H' => ∃ z, AccN H D0 ((List.range k).flatMap fun i => Ie02.bytes (d.cell i)) H' ∧ σ = [some (.ref (lay 0 0)), some (.ref D0), z]) ⟨none, A0, rfl⟩ ?_ ?_
  · rintro k σ H' hk ⟨z, acc, rfl⟩
    rw [Int.zero_add]
    have Dk := D.mono acc.same
    refine ⟨_, rfl, .inl ⟨rfl, _, .of acc.at_⟩, _, rfl, _, rfl, d, lay, f, k, rfl, ⟨Dk.s, W, L, hk⟩, fun v H1 s1 hv => ?_⟩
    refine ⟨v, _, rfl, hv, cell_up W hk _ _, fun B H2 hB s2 hb => ?_⟩
    obtain ⟨h1, A2⟩ := acc.more (ks := Ie02.bytes (d.cell k)) (s1.trans s2)
    rw [range_flat]
    refine ⟨D0, B, _, _, rfl, rfl, h1, hb, ?_, _, A2, rfl⟩
    rw [natV_length, natV_length, flat_len (fun _ => rfl)]
    have : (1000 : Nat) ≤ sizeLine := by decide
    show 4 * k + 4 ≤ _
    omega
  · rintro σ H' ⟨z, acc, rfl⟩
    exact ⟨_, rfl, q D0 H' acc⟩
def cCell : List Nat → Option Ie02.Call | [x, y] => some (.cell x y) | _ => none
theorem take_flat {α β : Type} {l : List α} {f : α → List β} {i : Nat} {x : α} (h : l[i]? = some x) : (l.take (i + 1)).flatMap f = (l.take i).flatMap f ++ f x := by
  rw [take_more h, List.flatMap_append, List.flatMap_singleton]
abbrev s_pixel : Stmt := topS 79
abbrev N_pixel : List Str := ["document", "x", "y", "numbers", "value"]
abbrev P_pixel : List Str := ["document", "x", "y"]
theorem sc_pixel : FnScope N_pixel P_pixel (defScope s_pixel) := ⟨rfl, rfl, rfl, by decide +kernel, rfl, by decide +kernel, by decide +kernel⟩
theorem d_pixel (T : TO K mg c e) (G_image_pixel : DefAt P w K mg base CX0 59 "image_pixel" P_image_pixel (spImage K c)) (F : TopFn K mg "pixel" "pixel" s_pixel P_pixel) : DefAt P w K mg base (L2.CX P w) 60 "pixel" P_pixel (spOp K c e cCell) := by
  refine F.okX sc_pixel (fun vs H Q E h => ?_) (fun fa cdv A outer s H vs Q E hr h => ?_)
  · obtain ⟨_, _, ns, _, rfl, hc, _⟩ := h
    match ns, hc with
    | [_, _], _ => rfl
  obtain ⟨d, lay, ns, cl, rfl, hc, D, W, lim, q⟩ := h
  obtain ⟨x, y, rfl, rfl⟩ : ∃ x y, ns = [x, y] ∧ cl = .cell x y := by
    match ns, hc with
    | [a1, a2], hc => exact ⟨a1, a2, rfl, (Option.some.inj hc).symm⟩
  have nd := sc_pixel.nd
  refine ⟨_, (pss_cons (ps_if (PW.pt (pw_or (pt_cmpR op_ge (pv 1) (pfld (K := K) (pv 0) rfl) (nomark _)) (pw_or1 (pt_cmpR op_ge (pv 2) (pfld (K := K) (pv 0) rfl) (nomark _))))) (pss_one (praise T.x_OutOfRange (takes_of rfl rfl rfl rfl))) pss_nil) (pss_cons (ps_set (i := 3) nd rfl (Or.inl rfl) (pe_lst pa_nil)) (pss_cons (ps_for (passes_of rfl) rfl (pi_tup (pc G_image_pixel (hr.mono (by omega)) pass0 (pa_cons (pv 0) (pa_cons (pe_op op_add (pe_op op_mulB (pv 2) (pfld (K := K) (pv 0) rfl)) (pv 1)) pa_nil)))) (pg_name (i := 4) nd rfl (Or.inl rfl)) (pss_one (ps_expr (pe_bm PySem.F.plainAttrs_list PySem.F.slot_list_extend PySem.F.type_list_extend mt_extT (pv 3) (pa_cons (pv 4) pa_nil))))) (pss_one (ps_ret (pv 3)))))), ?_⟩
  obtain ⟨f, L⟩ := W.lev
  obtain ⟨dx, hd⟩ := D.s.i.doc
  have w6 := W.w6
  have h6 := W.h6
  have bad : (d.w ≤ x ∨ d.h ≤ y) → Ie02.step d (.cell x y) = (d, [-1]) := fun h => by
    show (d, ite _ _ _) = _
    rw [if_pos h]
  refine ⟨_, rfl, _, rfl, _, _, _, _, _, rfl, hd, T.cD, T.nD _ (by decide), rfl, _, _, rfl, rfl, _, rfl, ?_⟩
  by_cases c1 : d.w ≤ x
  · exact (if_pos (by simp; omega)).mpr ((if_pos rfl).mpr (q.err 1 H (by decide) (by decide) (bad (.inl c1)) (Same.refl _)))
  refine (if_neg (by simp; omega)).mpr ?_
  refine ⟨_, rfl, _, rfl, _, _, _, _, _, rfl, hd, T.cD, T.nD _ (by decide), rfl, _, _, rfl, rfl, _, rfl, ?_⟩
  by_cases c2 : d.h ≤ y
  · exact (if_pos (by simp; omega)).mpr (q.err 1 H (by decide) (by decide) (bad (.inr c2)) (Same.refl _))
  refine (if_neg (by simp; omega)).mpr ?_
  have good : Ie02.step d (.cell x y) = (d, Ie02.ints ((pxL (d.cell (y * d.w + x))).flatMap Frac.nums)) := by
    show (d, ite _ _ _) = _
    rw [if_neg (by omega)]
    have : (pxL (d.cell (y * d.w + x))).flatMap Frac.nums = (d.cell (y * d.w + x)).c.r.nums ++ ((d.cell (y * d.w + x)).c.g.nums ++ ((d.cell (y * d.w + x)).c.b.nums ++ (d.cell (y * d.w + x)).a.nums)) := by
      unfold pxL
      simp only [List.flatMap_cons, List.flatMap_nil, List.append_nil]
    rw [this]
  rw [good] at q
  have hi : y * d.w + x < d.w * d.h := by
    have h1 : (y + 1) * d.w ≤ d.h * d.w := Nat.mul_le_mul_right _ (by omega)
    rw [Nat.add_mul, Nat.one_mul, Nat.mul_comm d.h] at h1
    omega
  refine ⟨(by show 0 ≤ sizeLine; decide), fun D0 hD0 => ?_⟩
  have A0 := AccN.start hD0
  have D0s := D.mono A0.same
  obtain ⟨dx2, hd2⟩ := D0s.s.i.doc
  refine ⟨_, rfl, _, rfl, _, rfl, _, _, _, _, _, rfl, hd2, T.cD, T.nD _ (by decide), rfl, _, _, rfl, rfl, mulSmall (by constructor <;> omega), _, rfl, _, _, rfl, rfl, d, lay, f, y * d.w + x, rfl, ⟨D0s.s, W, L, hi⟩, fun v H1 s1 hv => ?_⟩
  obtain ⟨pv, xs, rfl, hS, hF⟩ := hv
  have A1 : AccN H D0 [] H1 := ⟨A0.same.trans s1, A0.new, s1 _ _ A0.at_⟩
  refine ⟨pv, rfl, ⟨_, hS⟩, ?_⟩
  refine for_tup (K := K) (a := pv) (xs := xs) (fun j σ H' => ∃ z, SqT K H' pv xs ∧ FsAt K H' xs (pxL (d.cell (y * d.w + x))) ∧ AccN H D0 (((pxL (d.cell (y * d.w + x))).take j).flatMap Frac.nums) H' ∧ σ = [some (.ref (lay 0 0)), some (.int (x : Int)), some (.int (y : Int)), some (.ref D0), z]) ⟨none, hS, hF, A1, rfl⟩ (fun j σ H' _ ⟨_, h, _, _, _⟩ => h) ?_ ?_
  · rintro j z σ H' hj ⟨z0, hS, hF, acc, rfl⟩
    obtain ⟨fr, hfr, pa, rfl, hfa⟩ := Paired.at hF hj
    rw [take_flat hfr]
    obtain ⟨h1, A2⟩ := acc.more (ks := fr.nums) (Same.refl _)
    refine ⟨_, rfl, .inl ⟨rfl, _, .of acc.at_⟩, _, rfl, D0, pa, _, _, rfl, rfl, h1, hfa, ?_, ?_⟩
    · rw [natV_length]
      have e1 : ∀ l : List Frac, (l.flatMap Frac.nums).length = 2 * l.length := fun l => by
        induction l with
        | nil => rfl
        | cons a r ih => rw [List.flatMap_cons, List.length_append, ih, List.length_cons]; show 2 + _ = _; omega
      rw [e1, List.length_take]
      have : (1000 : Nat) ≤ sizeLine := by decide
      show 2 * min j 4 + 2 ≤ _
      omega
    · exact ⟨_, LH.SqT.updL hS h1, L2.Paired.mapP hF fun _ _ x => FAt.updL x h1, A2, rfl⟩
  · rintro σ H' ⟨z, _, _, acc, rfl⟩
    rw [show xs.length = 4 from hF.length] at acc
    exact ⟨_, rfl, read_fin D q acc⟩
def cAlone : List Nat → Option Ie02.Call | [i] => some (.alone i) | _ => none
def cList : List Nat → Option Ie02.Call | [p] => some (.list p) | _ => none
abbrev s_render_layer : Stmt := topS 80
abbrev N_render_layer : List Str := ["document", "number", "layer", "numbers", "place"]
abbrev P_render_layer : List Str := ["document", "number"]
theorem sc_render_layer : FnScope N_render_layer P_render_layer (defScope s_render_layer) := ⟨rfl, rfl, rfl, by decide +kernel, rfl, by decide +kernel, by decide +kernel⟩
theorem d_render_layer (T : TO K mg c e) (M_find_layer : MetAt P w K mg base (L2.CX P w) 38 c.D "find_layer" P_Document_find_layer (spFind c (e 2))) (M_size : MetAt P w K mg base CX0 38 c.D "size" P_Document_size (spSize c)) (G_own_pixel : DefAt P w K mg base CX0 56 "own_pixel" P_own_pixel (spOwn K c 4))
    (G_bytes_of_pixel : DefAt P w K mg base CX0 40 "bytes_of_pixel" P_bytes_of_pixel (spBytes K)) (F : TopFn K mg "render_layer" "render_layer" s_render_layer P_render_layer) : DefAt P w K mg base (L2.CX P w) 60 "render_layer" P_render_layer (spOp K c e cAlone) := by
  refine F.okX sc_render_layer (fun vs H Q E h => ?_) (fun fa cdv A outer s H vs Q E hr h => ?_)
  · obtain ⟨_, _, ns, _, rfl, hc, _⟩ := h
    match ns, hc with
    | [_], _ => rfl
  obtain ⟨d, lay, ns, cl, rfl, hc, D, W, lim, q⟩ := h
  obtain ⟨i, rfl, rfl⟩ : ∃ i, ns = [i] ∧ cl = .alone i := by
    match ns, hc with
    | [a1], hc => exact ⟨a1, rfl, (Option.some.inj hc).symm⟩
  have nd := sc_render_layer.nd
  have I := W.ids
  refine ⟨_, (pss_cons (ps_set (i := 2) nd rfl (Or.inl rfl) (pm (pv 0) T.cD M_find_layer (hr.mono (by omega)) (passes_call (takes_of rfl rfl rfl rfl) (fun _ _ _ _ h => h)) (pa_cons (pv 1) pa_nil))) (pss_cons (ps_if (pt_val (pe_callB call_isi (by rfl) T.n_isinstance (by decide +kernel) (pa_cons (pv 2) (pa_cons (pe_glob (v := .ref _) rfl T.c_AdjustmentLayer rfl) pa_nil)))) (pss_one (praise T.x_NoSuchLayer (takes_of rfl rfl rfl rfl))) pss_nil) (pss_cons (ps_set (i := 3) nd rfl (Or.inl rfl) (pe_lst pa_nil)) (pss_cons (ps_for (passes_of rfl) rfl (pi_range1 rfl T.n_range (pa_cons (pm0 (pv 0) T.cD M_size (hr.mono (by omega)) pass0) pa_nil)) (pg_name (i := 4) nd rfl (Or.inl rfl)) (pss_one (ps_expr (pe_bm PySem.F.plainAttrs_list PySem.F.slot_list_extend PySem.F.type_list_extend mt_extend (pv 3) (pa_cons (pc G_bytes_of_pixel (hr.mono (by omega)) pass0 (pa_cons (pc G_own_pixel (hr.mono (by omega)) pass0 (pa_cons (pv 0) (pa_cons (pv 2) (pa_cons (pv 4) pa_nil)))) pa_nil)) pa_nil))))) (pss_one (ps_ret (pv 3))))))), ?_⟩
  obtain ⟨f, L⟩ := W.lev
  have a36 := area36 W
  obtain ⟨dx, hd⟩ := D.s.i.doc
  have st : Ie02.step d (.alone i) = (d, match d.find i with
      | none => [-2]
      | some l => if isChange l.kind = true then [-2] else Ie02.ints ((List.range (d.w * d.h)).flatMap fun c => Ie02.bytes (d.alone l c))) := rfl
  rw [st] at q
  refine ⟨_, rfl, lay 0 0, dx, _, rfl, hd, rfl, _, rfl, d, lay, i, rfl, D.s.i, I, fun h => q.err 2 H (by decide) (by decide) (by rw [h]; rfl) (Same.refl _), fun l h => ?_⟩
  rw [h] at q
  obtain ⟨hl, rfl⟩ := find_mem h
  have q : After K c e d lay H Q E (d, if isChange l.kind = true then [-2] else Ie02.ints ((List.range (d.w * d.h)).flatMap fun c => Ie02.bytes (d.alone l c))) := q
  obtain ⟨dl, il⟩ := D.s.i.ins l hl
  refine ⟨_, rfl, _, _, _, _, _, rfl, .own _, T.ty il, T.isA _, _, rfl, ?_⟩
  by_cases ca : isChange l.kind = true
  · refine (if_pos ca).mpr (q.err 2 H (by decide) (by decide) ?_ (Same.refl _))
    rw [if_pos ca]
    rfl
  refine (if_neg ca).mpr ?_
  have na : isChange l.kind = false := by simpa using ca
  rw [if_neg ca] at q
  have al : ∀ k, d.alone l k = ownS d 10 k l := fun k => by
    unfold Doc.alone ownS
    cases hk : l.kind with
    | change h => rw [hk] at na; cases na
    | picture => rfl
    | group t => rfl
  have pf := L.pos hl
  refine ⟨(by show 0 ≤ sizeLine; decide), fun D0 hD0 => ?_⟩
  have A0 := AccN.start hD0
  obtain ⟨dx2, hd2⟩ := (D.mono A0.same).s.i.doc
  refine ⟨_, rfl, lay 0 0, dx2, _, rfl, hd2, rfl, d, lay, rfl, ⟨dx2, hd2⟩, W.w6, _, rfl, by omega, by omega, ?_⟩
  rw [Int.toNat_natCast]
  refine for_range (lo := 0) (n := d.w * d.h) (fun k σ H' => ∃ z, AccN H D0 ((List.range k).flatMap fun i => Ie02.bytes (d.alone l i)) H' ∧ σ = [some (.ref (lay 0 0)), some (.int (l.id : Int)), some (.ref (lay l.id 0)), some (.ref D0), z]) ⟨none, A0, rfl⟩ ?_ ?_
  · rintro k σ H' hk ⟨z, acc, rfl⟩
    rw [Int.zero_add]
    have Dk := D.mono acc.same
    refine ⟨_, rfl, .inl ⟨rfl, _, .of acc.at_⟩, _, rfl, _, rfl, _, rfl, d, lay, f, l, k, 10, rfl, ⟨Dk.s, W, L, hk⟩, hl, na, by omega, by omega, fit12 W _ _, fun v H1 s1 hv => ?_⟩
    have up : UP (ownS d 10 k l) := (own_pot W.ok hk (paint_pot W.ok hk 10) hl).up
    refine ⟨v, _, rfl, hv, up, fun B H2 hB s2 hb => ?_⟩
    obtain ⟨h1, A2⟩ := acc.more (ks := Ie02.bytes (d.alone l k)) (s1.trans s2)
    rw [range_flat]
    rw [al k] at A2 ⊢
    refine ⟨D0, B, _, _, rfl, rfl, h1, hb, ?_, _, A2, rfl⟩
    rw [natV_length, natV_length, flat_len (fun _ => rfl)]
    have : (1000 : Nat) ≤ sizeLine := by decide
    show 4 * k + 4 ≤ _
    omega
  · rintro σ H' ⟨z, acc, rfl⟩
    exact ⟨_, rfl, read_fin D q acc⟩
def rowOf (l : Layer) : List Nat := [l.id, l.mode, l.opacity, l.clip.toNat, l.shown.toNat]
abbrev s_list_layers : Stmt := topS 81
abbrev N_list_layers : List Str := ["document", "parent", "members", "numbers", "number", "layer"]
abbrev P_list_layers : List Str := ["document", "parent"]
theorem sc_list_layers : FnScope N_list_layers P_list_layers (defScope s_list_layers) := ⟨rfl, rfl, rfl, by decide +kernel, rfl, by decide +kernel, by decide +kernel⟩
theorem d_list_layers (T : TO K mg c e) (M_members_of : MetAt P w K mg base (L2.CX P w) 40 c.D "members_of" P_Document_members_of (spMem c (e 2))) (F : TopFn K mg "list_layers" "list_layers" s_list_layers P_list_layers) : DefAt P w K mg base (L2.CX P w) 60 "list_layers" P_list_layers (spOp K c e cList) := by
  refine (F.okX (k := 59) sc_list_layers (fun vs H Q E h => ?_) (fun fa cdv A outer s H vs Q E hr h => ?_))
  · obtain ⟨_, _, ns, _, rfl, hc, _⟩ := h
    match ns, hc with
    | [_], _ => rfl
  obtain ⟨d, lay, ns, cl, rfl, hc, D, W, lim, q⟩ := h
  obtain ⟨p, rfl, rfl⟩ : ∃ i, ns = [i] ∧ cl = .list i := by
    match ns, hc with
    | [a1], hc => exact ⟨a1, rfl, (Option.some.inj hc).symm⟩
  have nd := sc_list_layers.nd
  have I := W.ids
  refine ⟨_, (pss_cons (ps_set (i := 2) nd rfl (Or.inl rfl) (pm (pv 0) T.cD M_members_of (hr.mono (by omega)) (passes_call (takes_of rfl rfl rfl rfl) (fun _ _ _ _ h => h)) (pa_cons (pv 1) pa_nil))) (pss_cons (ps_set (i := 3) nd rfl (Or.inl rfl) (pe_lst (pa_cons (pe_callB call_len_seq (by rfl) T.n_len (by decide +kernel) (pa_cons (pv 2) pa_nil)) pa_nil))) (pss_cons (ps_for (passes_of rfl) rfl (pi_list (pv 2)) (pg_name (i := 4) nd rfl (Or.inl rfl)) (pss_cons (ps_set (i := 5) nd rfl (Or.inl rfl) (pe_dget (hu_of hr) (pfld (K := K) (pv 0) rfl) (pv 4) (fun _ _ => rfl))) (pss_one (ps_expr (pe_bm PySem.F.plainAttrs_list PySem.F.slot_list_extend PySem.F.type_list_extend mt_extend (pv 3) (pa_cons (pe_lst (pa_cons (pv 4) (pa_cons (pfld (K := K) (pv 5) rfl) (pa_cons (pfld (K := K) (pv 5) rfl) (pa_cons (pfld (K := K) (pv 5) rfl) (pa_cons (pfld (K := K) (pv 5) rfl) pa_nil)))))) pa_nil)))))) (pss_one (ps_ret (pv 3)))))), ?_⟩
  obtain ⟨dx, hd⟩ := D.s.i.doc
  have st : Ie02.step d (.list p) = (d, if d.takes p = false then [-2] else Ie02.ints ((d.kids p).length :: (d.kids p).flatMap rowOf)) := rfl
  rw [st] at q
  refine ⟨_, rfl, lay 0 0, dx, _, rfl, hd, rfl, _, rfl, d, lay, p, rfl, D.s.i, I, fun h => q.err 2 H (by decide) (by decide) (by rw [if_pos h]; rfl) (Same.refl _), fun tk => ?_⟩
  rw [if_neg (by rw [tk]; decide)] at q
  have hp := (takes_iff I p).mp tk
  have hm := D.s.m p hp
  have kl : (kidIds d p).length = (d.kids p).length := by unfold kidIds; rw [List.length_map]
  have k12 : (d.kids p).length ≤ 12 := Nat.le_trans (kids_len d p) W.len
  refine ⟨_, rfl, lay p 2, _, rfl, .inl (.of hm), (by show 1 ≤ sizeLine; decide), fun D0 hD0 => ?_⟩
  have A0 : AccN H D0 ([(d.kids p).length] ++ ((d.kids p).take 0).flatMap rowOf) (upd H D0 (.lst [.int ((natV (kidIds d p)).length : Int)])) := by
    refine ⟨Same.new hD0, hD0, ?_⟩
    rw [upd_same, natV_length, kl]
    rfl
  refine ⟨_, rfl, lay p 2, rfl, ⟨_, Same.seq A0.same (.of hm)⟩, ?_⟩
  refine for_list (K := K) (a := lay p 2) (xs := natV (kidIds d p)) (fun j σ H' => ∃ z1 z2, AccN H D0 ([(d.kids p).length] ++ ((d.kids p).take j).flatMap rowOf) H' ∧ σ = [some (.ref (lay 0 0)), some (.int (p : Int)), some (.ref (lay p 2)), some (.ref D0), z1, z2]) ⟨none, none, A0, rfl⟩ (fun j σ H' _ ⟨_, _, acc, _⟩ => Same.seq acc.same (.of hm)) ?_ ?_
  · rintro j x σ H' hj ⟨z1, z2, acc, rfl⟩
    obtain ⟨n, hn, rfl⟩ := natV_at hj
    obtain ⟨l, hlk, rfl⟩ : ∃ l, (d.kids p)[j]? = some l ∧ l.id = n := by
      unfold kidIds at hn
      rw [List.getElem?_map] at hn
      cases h : (d.kids p)[j]? with
      | none => rw [h] at hn; cases hn
      | some l => rw [h] at hn; exact ⟨l, rfl, Option.some.inj hn⟩
    have hl := kids_layers (List.mem_of_getElem? hlk)
    have Dj := D.mono acc.same
    obtain ⟨dxj, hdj⟩ := Dj.s.i.doc
    obtain ⟨dl, il⟩ := Dj.s.i.ins l hl
    refine ⟨_, rfl, _, _, _, _, _, rfl, hdj, T.cD, T.nD _ (by decide), rfl, _, rfl, _, .ref (lay l.id 0), rfl, look Dj.s.i I hl, ?_⟩
    refine ⟨_, rfl, .inl ⟨rfl, _, .of acc.at_⟩, _, rfl, _, rfl, _, _, _, _, _, rfl, il, T.cO _, T.nO _ _ (inBase (by decide) _), rfl, _, rfl, _, _, _, _, _, rfl, il, T.cO _, T.nO _ _ (inBase (by decide) _), rfl, _, rfl, _, _, _, _, _, rfl, il, T.cO _, T.nO _ _ (inBase (by decide) _), rfl, _, rfl, _, _, _, _, _, rfl, il, T.cO _, T.nO _ _ (inBase (by decide) _), rfl, (by show 5 ≤ sizeLine; decide), fun B hB => ?_⟩
    have hr2 : upd H' B (.lst [.int (l.id : Int), .int (l.mode : Int), .int (l.opacity : Int), .int (l.clip.toNat : Int), .int (l.shown.toNat : Int)]) B = some (.lst (natV (rowOf l))) := upd_same
    have sB : Same H' (upd H' B (.lst [.int (l.id : Int), .int (l.mode : Int), .int (l.opacity : Int), .int (l.clip.toNat : Int), .int (l.shown.toNat : Int)])) := Same.new hB
    obtain ⟨h1, A2⟩ := acc.more (ks := rowOf l) sB
    rw [take_flat hlk, ← List.append_assoc]
    refine ⟨D0, B, _, _, rfl, rfl, h1, hr2, ?_, _, _, A2, rfl⟩
    have e1 : ∀ ls : List Layer, (ls.flatMap rowOf).length = 5 * ls.length := fun ls => by
      induction ls with
      | nil => rfl
      | cons a r ih => rw [List.flatMap_cons, List.length_append, ih, List.length_cons]; show 5 + _ = _; omega
    rw [natV_length, natV_length, List.length_append, e1, List.length_take]
    have : (1000 : Nat) ≤ sizeLine := by decide
    show 1 + 5 * min j _ + 5 ≤ _
    omega
  · rintro σ H' ⟨z1, z2, acc, rfl⟩
    rw [natV_length, kl, List.take_length] at acc
    exact ⟨_, rfl, read_fin D q acc⟩
end
end LH

set_option Elab.async false
set_option linter.all false
set_option maxRecDepth 100000
set_option maxHeartbeats 1000000
namespace LH
open PySem PySem.Spec PyProof.Rows L2
open Ie02 (Frac Px Colour Doc Layer)
open LM
section
variable {P : Program} {w : World} {K : PySem.W.Frag} {mg : Str → Option Value} {base : Heap} {c : CAd} {e : Nat → Addr}
abbrev s_run_call : Stmt := topS 85
abbrev N_run_call : List Str := ["document", "call", "operation"]
abbrev P_run_call : List Str := ["document", "call"]
theorem sc_run_call : FnScope N_run_call P_run_call (defScope s_run_call) := ⟨rfl, rfl, rfl, by decide +kernel, rfl, by decide +kernel, by decide +kernel⟩
section
variable (G_new_canvas : DefAt P w K mg base (L2.CX P w) 42 "new_canvas" P_new_canvas (spOp K c e cPage))
variable (G_add_layer : DefAt P w K mg base (L2.CX P w) 42 "add_layer" P_add_layer (spOp K c e cLayer))
variable (G_add_group : DefAt P w K mg base (L2.CX P w) 42 "add_group" P_add_group (spOp K c e cGroup))
variable (G_add_adjustment : DefAt P w K mg base (L2.CX P w) 42 "add_adjustment" P_add_adjustment (spOp K c e cChange))
variable (G_paint : DefAt P w K mg base (L2.CX P w) 42 "paint" P_paint (spOp K c e cPaint))
variable (G_set_mask : DefAt P w K mg base (L2.CX P w) 42 "set_mask" P_set_mask (spOp K c e cMask))
variable (G_set_layer : DefAt P w K mg base (L2.CX P w) 42 "set_layer" P_set_layer (spOp K c e cSet))
variable (G_move : DefAt P w K mg base (L2.CX P w) 42 "move" P_move (spOp K c e cMove))
variable (G_remove : DefAt P w K mg base (L2.CX P w) 42 "remove" P_remove (spOp K c e cDrop))
variable (G_render : DefAt P w K mg base CX0 60 "render" P_render (spRead K c))
variable (G_pixel : DefAt P w K mg base (L2.CX P w) 60 "pixel" P_pixel (spOp K c e cCell))
variable (G_render_layer : DefAt P w K mg base (L2.CX P w) 60 "render_layer" P_render_layer (spOp K c e cAlone))
variable (G_list_layers : DefAt P w K mg base (L2.CX P w) 60 "list_layers" P_list_layers (spOp K c e cList))
/-- a call as numbers, decoded -/
def callOf : List Nat → Option Ie02.Call
  | 0 :: r => cPage r
  | 1 :: r => cLayer r
  | 2 :: r => cGroup r
  | 3 :: r => cChange r
  | 4 :: r => cPaint r
  | 5 :: r => cMask r
  | 6 :: r => cSet r
  | 7 :: r => cMove r
  | 8 :: r => cDrop r
  | 9 :: [] => some .picture
  | 10 :: r => cCell r
  | 11 :: r => cAlone r
  | 12 :: r => cList r
  | _ => none
def spRun (K : PySem.W.Frag) (c : CAd) (e : Nat → Addr) : Sp := fun vs H Q E => ∃ (d : Doc) (lay : Lay) (A : Addr) (ns : List Nat) (cl : Ie02.Call), vs = [.ref (lay 0 0), .ref A] ∧ SqL K H A (natV ns) ∧ callOf ns = some cl ∧ DocH K c H d lay ∧ WF d ∧ (∀ n ∈ ns, n < 2 ^ 32) ∧ After K c e d lay H Q E (Ie02.step d cl)
include G_new_canvas G_add_layer G_add_group G_add_adjustment G_paint G_set_mask G_set_layer G_move G_remove G_render G_pixel G_render_layer G_list_layers in
theorem d_run_call (F : TopFn K mg "run_call" "run_call" s_run_call P_run_call) : DefAt P w K mg base (L2.CX P w) 61 "run_call" P_run_call (spRun K c e) := by
  refine F.okX sc_run_call (fun vs H Q E h => ?_) (fun fa cdv A outer s H vs Q E hr h => ?_)
  · obtain ⟨_, _, _, _, _, rfl, _⟩ := h; rfl
  obtain ⟨d, lay, A0, ns, cl, rfl, hA, hc, D, W, lim, q⟩ := h
  have nd := sc_run_call.nd
  refine ⟨_, (pss_cons (ps_set (i := 2) nd rfl (Or.inl rfl) (pe_ix (r := rIxL K) ix_list (pv 1) pe_int (fun _ _ => rfl))) (pss_cons (ps_if (pt_cmpR op_eq (pv 2) pe_int (nomark _)) (pss_one (ps_ret (pc G_new_canvas (hr.mono (by omega)) (passes_call (takes_of rfl rfl rfl rfl) (fun _ _ _ _ h => h)) (pa_cons (pv 0) (pa_cons (pe_ix (r := rIxL K) ix_list (pv 1) pe_int (fun _ _ => rfl)) (pa_cons (pe_ix (r := rIxL K) ix_list (pv 1) pe_int (fun _ _ => rfl)) pa_nil)))))) pss_nil) (pss_cons (ps_if (pt_cmpR op_eq (pv 2) pe_int (nomark _)) (pss_one (ps_ret (pc G_add_layer (hr.mono (by omega)) (passes_call (takes_of rfl rfl rfl rfl) (fun _ _ _ _ h => h)) (pa_cons (pv 0) (pa_cons (pe_ix (r := rIxL K) ix_list (pv 1) pe_int (fun _ _ => rfl)) pa_nil))))) pss_nil) (pss_cons (ps_if (pt_cmpR op_eq (pv 2) pe_int (nomark _)) (pss_one (ps_ret (pc G_add_group (hr.mono (by omega)) (passes_call (takes_of rfl rfl rfl rfl) (fun _ _ _ _ h => h)) (pa_cons (pv 0) (pa_cons (pe_ix (r := rIxL K) ix_list (pv 1) pe_int (fun _ _ => rfl)) (pa_cons (pe_ix (r := rIxL K) ix_list (pv 1) pe_int (fun _ _ => rfl)) pa_nil)))))) pss_nil) (pss_cons (ps_if (pt_cmpR op_eq (pv 2) pe_int (nomark _)) (pss_one (ps_ret (pc G_add_adjustment (hr.mono (by omega)) (passes_call (takes_of rfl rfl rfl rfl) (fun _ _ _ _ h => h)) (pa_cons (pv 0) (pa_cons (pe_ix (r := rIxL K) ix_list (pv 1) pe_int (fun _ _ => rfl)) (pa_cons (pe_ix (r := rIxL K) ix_list (pv 1) pe_int (fun _ _ => rfl)) pa_nil)))))) pss_nil) (pss_cons (ps_if (pt_cmpR op_eq (pv 2) pe_int (nomark _)) (pss_one (ps_ret (pc G_paint (hr.mono (by omega)) (passes_call (takes_of rfl rfl rfl rfl) (fun _ _ _ _ h => h)) (pa_cons (pv 0) (pa_cons (pe_ix (r := rIxL K) ix_list (pv 1) pe_int (fun _ _ => rfl)) (pa_cons (pe_ix (r := rIxL K) ix_list (pv 1) pe_int (fun _ _ => rfl)) (pa_cons (pe_ix (r := rIxL K) ix_list (pv 1) pe_int (fun _ _ => rfl)) (pa_cons (pe_ix (r := rIxL K) ix_list (pv 1) pe_int (fun _ _ => rfl)) (pa_cons (pe_ix (r := rIxL K) ix_list (pv 1) pe_int (fun _ _ => rfl)) (pa_cons (pe_ix (r := rIxL K) ix_list (pv 1) pe_int (fun _ _ => rfl)) (pa_cons (pe_ix (r := rIxL K) ix_list (pv 1) pe_int (fun _ _ => rfl)) (pa_cons (pe_ix (r := rIxL K) ix_list (pv 1) pe_int (fun _ _ => rfl)) (pa_cons (pe_ix (r := rIxL K) ix_list (pv 1) pe_int (fun _ _ => rfl)) pa_nil))))))))))))) pss_nil) (pss_cons (ps_if (pt_cmpR op_eq (pv 2) pe_int (nomark _)) (pss_one (ps_ret (pc G_set_mask (hr.mono (by omega)) (passes_call (takes_of rfl rfl rfl rfl) (fun _ _ _ _ h => h)) (pa_cons (pv 0) (pa_cons (pe_ix (r := rIxL K) ix_list (pv 1) pe_int (fun _ _ => rfl)) (pa_cons (pe_ix (r := rIxL K) ix_list (pv 1) pe_int (fun _ _ => rfl)) (pa_cons (pe_ix (r := rIxL K) ix_list (pv 1) pe_int (fun _ _ => rfl)) (pa_cons (pe_ix (r := rIxL K) ix_list (pv 1) pe_int (fun _ _ => rfl)) (pa_cons (pe_ix (r := rIxL K) ix_list (pv 1) pe_int (fun _ _ => rfl)) (pa_cons (pe_ix (r := rIxL K) ix_list (pv 1) pe_int (fun _ _ => rfl)) pa_nil)))))))))) pss_nil) (pss_cons (ps_if (pt_cmpR op_eq (pv 2) pe_int (nomark _)) (pss_one (ps_ret (pc G_set_layer (hr.mono (by omega)) (passes_call (takes_of rfl rfl rfl rfl) (fun _ _ _ _ h => h)) (pa_cons (pv 0) (pa_cons (pe_ix (r := rIxL K) ix_list (pv 1) pe_int (fun _ _ => rfl)) (pa_cons (pe_ix (r := rIxL K) ix_list (pv 1) pe_int (fun _ _ => rfl)) (pa_cons (pe_ix (r := rIxL K) ix_list (pv 1) pe_int (fun _ _ => rfl)) (pa_cons (pe_ix (r := rIxL K) ix_list (pv 1) pe_int (fun _ _ => rfl)) (pa_cons (pe_ix (r := rIxL K) ix_list (pv 1) pe_int (fun _ _ => rfl)) pa_nil))))))))) pss_nil) (pss_cons (ps_if (pt_cmpR op_eq (pv 2) pe_int (nomark _)) (pss_one (ps_ret (pc G_move (hr.mono (by omega)) (passes_call (takes_of rfl rfl rfl rfl) (fun _ _ _ _ h => h)) (pa_cons (pv 0) (pa_cons (pe_ix (r := rIxL K) ix_list (pv 1) pe_int (fun _ _ => rfl)) (pa_cons (pe_ix (r := rIxL K) ix_list (pv 1) pe_int (fun _ _ => rfl)) (pa_cons (pe_ix (r := rIxL K) ix_list (pv 1) pe_int (fun _ _ => rfl)) pa_nil))))))) pss_nil) (pss_cons (ps_if (pt_cmpR op_eq (pv 2) pe_int (nomark _)) (pss_one (ps_ret (pc G_remove (hr.mono (by omega)) (passes_call (takes_of rfl rfl rfl rfl) (fun _ _ _ _ h => h)) (pa_cons (pv 0) (pa_cons (pe_ix (r := rIxL K) ix_list (pv 1) pe_int (fun _ _ => rfl)) pa_nil))))) pss_nil) (pss_cons (ps_if (pt_cmpR op_eq (pv 2) pe_int (nomark _)) (pss_one (ps_ret (pc G_render (hr.mono (by omega)) pass0 (pa_cons (pv 0) pa_nil)))) pss_nil) (pss_cons (ps_if (pt_cmpR op_eq (pv 2) pe_int (nomark _)) (pss_one (ps_ret (pc G_pixel (hr.mono (by omega)) (passes_call (takes_of rfl rfl rfl rfl) (fun _ _ _ _ h => h)) (pa_cons (pv 0) (pa_cons (pe_ix (r := rIxL K) ix_list (pv 1) pe_int (fun _ _ => rfl)) (pa_cons (pe_ix (r := rIxL K) ix_list (pv 1) pe_int (fun _ _ => rfl)) pa_nil)))))) pss_nil) (pss_cons (ps_if (pt_cmpR op_eq (pv 2) pe_int (nomark _)) (pss_one (ps_ret (pc G_render_layer (hr.mono (by omega)) (passes_call (takes_of rfl rfl rfl rfl) (fun _ _ _ _ h => h)) (pa_cons (pv 0) (pa_cons (pe_ix (r := rIxL K) ix_list (pv 1) pe_int (fun _ _ => rfl)) pa_nil))))) pss_nil) (pss_one (ps_ret (pc G_list_layers (hr.mono (by omega)) (passes_call (takes_of rfl rfl rfl rfl) (fun _ _ _ _ h => h)) (pa_cons (pv 0) (pa_cons (pe_ix (r := rIxL K) ix_list (pv 1) pe_int (fun _ _ => rfl)) pa_nil)))))))))))))))))), ?_⟩
  unfold callOf at hc
  split at hc
  · rename_i r
    obtain ⟨a1, a2, rfl⟩ : ∃ a1 a2 : Nat, r = [a1, a2] := by
      match r, hc with
      | [a1, a2], _ => exact ⟨a1, a2, rfl⟩
    refine ⟨_, rfl, _, _, 0, _, rfl, rfl, hA, rfl, ?_⟩
    refine ⟨_, rfl, rfl, _, rfl, (if_pos (by simp)).mpr ?_⟩
    exact ⟨_, rfl, _, rfl, _, _, 1, _, rfl, rfl, hA, rfl, _, rfl, _, _, 2, _, rfl, rfl, hA, rfl, d, lay, [a1, a2], cl, rfl, hc, D, W, fun n hn => lim n (List.mem_cons_of_mem _ hn), q⟩
  · rename_i r
    obtain ⟨a1, rfl⟩ : ∃ a1 : Nat, r = [a1] := by
      match r, hc with
      | [a1], _ => exact ⟨a1, rfl⟩
    refine ⟨_, rfl, _, _, 0, _, rfl, rfl, hA, rfl, ?_⟩
    refine ⟨_, rfl, rfl, _, rfl, (if_neg (by simp)).mpr ?_⟩
    refine ⟨_, rfl, rfl, _, rfl, (if_pos (by simp)).mpr ?_⟩
    exact ⟨_, rfl, _, rfl, _, _, 1, _, rfl, rfl, hA, rfl, d, lay, [a1], cl, rfl, hc, D, W, fun n hn => lim n (List.mem_cons_of_mem _ hn), q⟩
  · rename_i r
    obtain ⟨a1, a2, rfl⟩ : ∃ a1 a2 : Nat, r = [a1, a2] := by
      match r, hc with
      | [a1, a2], _ => exact ⟨a1, a2, rfl⟩
    refine ⟨_, rfl, _, _, 0, _, rfl, rfl, hA, rfl, ?_⟩
    refine ⟨_, rfl, rfl, _, rfl, (if_neg (by simp)).mpr ?_⟩
    refine ⟨_, rfl, rfl, _, rfl, (if_neg (by simp)).mpr ?_⟩
    refine ⟨_, rfl, rfl, _, rfl, (if_pos (by simp)).mpr ?_⟩
    exact ⟨_, rfl, _, rfl, _, _, 1, _, rfl, rfl, hA, rfl, _, rfl, _, _, 2, _, rfl, rfl, hA, rfl, d, lay, [a1, a2], cl, rfl, hc, D, W, fun n hn => lim n (List.mem_cons_of_mem _ hn), q⟩
  · rename_i r
    obtain ⟨a1, a2, rfl⟩ : ∃ a1 a2 : Nat, r = [a1, a2] := by
      match r, hc with
      | [a1, a2], _ => exact ⟨a1, a2, rfl⟩
    refine ⟨_, rfl, _, _, 0, _, rfl, rfl, hA, rfl, ?_⟩
    refine ⟨_, rfl, rfl, _, rfl, (if_neg (by simp)).mpr ?_⟩
    refine ⟨_, rfl, rfl, _, rfl, (if_neg (by simp)).mpr ?_⟩
    refine ⟨_, rfl, rfl, _, rfl, (if_neg (by simp)).mpr ?_⟩
    refine ⟨_, rfl, rfl, _, rfl, (if_pos (by simp)).mpr ?_⟩
    exact ⟨_, rfl, _, rfl, _, _, 1, _, rfl, rfl, hA, rfl, _, rfl, _, _, 2, _, rfl, rfl, hA, rfl, d, lay, [a1, a2], cl, rfl, hc, D, W, fun n hn => lim n (List.mem_cons_of_mem _ hn), q⟩
  · rename_i r
    obtain ⟨a1, a2, a3, a4, a5, a6, a7, a8, a9, rfl⟩ : ∃ a1 a2 a3 a4 a5 a6 a7 a8 a9 : Nat, r = [a1, a2, a3, a4, a5, a6, a7, a8, a9] := by
      match r, hc with
      | [a1, a2, a3, a4, a5, a6, a7, a8, a9], _ => exact ⟨a1, a2, a3, a4, a5, a6, a7, a8, a9, rfl⟩
    refine ⟨_, rfl, _, _, 0, _, rfl, rfl, hA, rfl, ?_⟩
    refine ⟨_, rfl, rfl, _, rfl, (if_neg (by simp)).mpr ?_⟩
    refine ⟨_, rfl, rfl, _, rfl, (if_neg (by simp)).mpr ?_⟩
    refine ⟨_, rfl, rfl, _, rfl, (if_neg (by simp)).mpr ?_⟩
    refine ⟨_, rfl, rfl, _, rfl, (if_neg (by simp)).mpr ?_⟩
    refine ⟨_, rfl, rfl, _, rfl, (if_pos (by simp)).mpr ?_⟩
    exact ⟨_, rfl, _, rfl, _, _, 1, _, rfl, rfl, hA, rfl, _, rfl, _, _, 2, _, rfl, rfl, hA, rfl, _, rfl, _, _, 3, _, rfl, rfl, hA, rfl, _, rfl, _, _, 4, _, rfl, rfl, hA, rfl, _, rfl, _, _, 5, _, rfl, rfl, hA, rfl, _, rfl, _, _, 6, _, rfl, rfl, hA, rfl, _, rfl, _, _, 7, _, rfl, rfl, hA, rfl, _, rfl, _, _, 8, _, rfl, rfl, hA, rfl, _, rfl, _, _, 9, _, rfl, rfl, hA, rfl, d, lay, [a1, a2, a3, a4, a5, a6, a7, a8, a9], cl, rfl, hc, D, W, fun n hn => lim n (List.mem_cons_of_mem _ hn), q⟩
  · rename_i r
    obtain ⟨a1, a2, a3, a4, a5, a6, rfl⟩ : ∃ a1 a2 a3 a4 a5 a6 : Nat, r = [a1, a2, a3, a4, a5, a6] := by
      match r, hc with
      | [a1, a2, a3, a4, a5, a6], _ => exact ⟨a1, a2, a3, a4, a5, a6, rfl⟩
    refine ⟨_, rfl, _, _, 0, _, rfl, rfl, hA, rfl, ?_⟩
    refine ⟨_, rfl, rfl, _, rfl, (if_neg (by simp)).mpr ?_⟩
    refine ⟨_, rfl, rfl, _, rfl, (if_neg (by simp)).mpr ?_⟩
    refine ⟨_, rfl, rfl, _, rfl, (if_neg (by simp)).mpr ?_⟩
    refine ⟨_, rfl, rfl, _, rfl, (if_neg (by simp)).mpr ?_⟩
    refine ⟨_, rfl, rfl, _, rfl, (if_neg (by simp)).mpr ?_⟩
    refine ⟨_, rfl, rfl, _, rfl, (if_pos (by simp)).mpr ?_⟩
    exact ⟨_, rfl, _, rfl, _, _, 1, _, rfl, rfl, hA, rfl, _, rfl, _, _, 2, _, rfl, rfl, hA, rfl, _, rfl, _, _, 3, _, rfl, rfl, hA, rfl, _, rfl, _, _, 4, _, rfl, rfl, hA, rfl, _, rfl, _, _, 5, _, rfl, rfl, hA, rfl, _, rfl, _, _, 6, _, rfl, rfl, hA, rfl, d, lay, [a1, a2, a3, a4, a5, a6], cl, rfl, hc, D, W, fun n hn => lim n (List.mem_cons_of_mem _ hn), q⟩
  · rename_i r
    obtain ⟨a1, a2, a3, a4, a5, rfl⟩ : ∃ a1 a2 a3 a4 a5 : Nat, r = [a1, a2, a3, a4, a5] := by
      match r, hc with
      | [a1, a2, a3, a4, a5], _ => exact ⟨a1, a2, a3, a4, a5, rfl⟩
    refine ⟨_, rfl, _, _, 0, _, rfl, rfl, hA, rfl, ?_⟩
    refine ⟨_, rfl, rfl, _, rfl, (if_neg (by simp)).mpr ?_⟩
    refine ⟨_, rfl, rfl, _, rfl, (if_neg (by simp)).mpr ?_⟩
    refine ⟨_, rfl, rfl, _, rfl, (if_neg (by simp)).mpr ?_⟩
    refine ⟨_, rfl, rfl, _, rfl, (if_neg (by simp)).mpr ?_⟩
    refine ⟨_, rfl, rfl, _, rfl, (if_neg (by simp)).mpr ?_⟩
    refine ⟨_, rfl, rfl, _, rfl, (if_neg (by simp)).mpr ?_⟩
    refine ⟨_, rfl, rfl, _, rfl, (if_pos (by simp)).mpr ?_⟩
    exact ⟨_, rfl, _, rfl, _, _, 1, _, rfl, rfl, hA, rfl, _, rfl, _, _, 2, _, rfl, rfl, hA, rfl, _, rfl, _, _, 3, _, rfl, rfl, hA, rfl, _, rfl, _, _, 4, _, rfl, rfl, hA, rfl, _, rfl, _, _, 5, _, rfl, rfl, hA, rfl, d, lay, [a1, a2, a3, a4, a5], cl, rfl, hc, D, W, fun n hn => lim n (List.mem_cons_of_mem _ hn), q⟩
  · rename_i r
    obtain ⟨a1, a2, a3, rfl⟩ : ∃ a1 a2 a3 : Nat, r = [a1, a2, a3] := by
      match r, hc with
      | [a1, a2, a3], _ => exact ⟨a1, a2, a3, rfl⟩
    refine ⟨_, rfl, _, _, 0, _, rfl, rfl, hA, rfl, ?_⟩
    refine ⟨_, rfl, rfl, _, rfl, (if_neg (by simp)).mpr ?_⟩
    refine ⟨_, rfl, rfl, _, rfl, (if_neg (by simp)).mpr ?_⟩
    refine ⟨_, rfl, rfl, _, rfl, (if_neg (by simp)).mpr ?_⟩
    refine ⟨_, rfl, rfl, _, rfl, (if_neg (by simp)).mpr ?_⟩
    refine ⟨_, rfl, rfl, _, rfl, (if_neg (by simp)).mpr ?_⟩
    refine ⟨_, rfl, rfl, _, rfl, (if_neg (by simp)).mpr ?_⟩
    refine ⟨_, rfl, rfl, _, rfl, (if_neg (by simp)).mpr ?_⟩
    refine ⟨_, rfl, rfl, _, rfl, (if_pos (by simp)).mpr ?_⟩
    exact ⟨_, rfl, _, rfl, _, _, 1, _, rfl, rfl, hA, rfl, _, rfl, _, _, 2, _, rfl, rfl, hA, rfl, _, rfl, _, _, 3, _, rfl, rfl, hA, rfl, d, lay, [a1, a2, a3], cl, rfl, hc, D, W, fun n hn => lim n (List.mem_cons_of_mem _ hn), q⟩
  · rename_i r
    obtain ⟨a1, rfl⟩ : ∃ a1 : Nat, r = [a1] := by
      match r, hc with
      | [a1], _ => exact ⟨a1, rfl⟩
    refine ⟨_, rfl, _, _, 0, _, rfl, rfl, hA, rfl, ?_⟩
    refine ⟨_, rfl, rfl, _, rfl, (if_neg (by simp)).mpr ?_⟩
    refine ⟨_, rfl, rfl, _, rfl, (if_neg (by simp)).mpr ?_⟩
    refine ⟨_, rfl, rfl, _, rfl, (if_neg (by simp)).mpr ?_⟩
    refine ⟨_, rfl, rfl, _, rfl, (if_neg (by simp)).mpr ?_⟩
    refine ⟨_, rfl, rfl, _, rfl, (if_neg (by simp)).mpr ?_⟩
    refine ⟨_, rfl, rfl, _, rfl, (if_neg (by simp)).mpr ?_⟩
    refine ⟨_, rfl, rfl, _, rfl, (if_neg (by simp)).mpr ?_⟩
    refine ⟨_, rfl, rfl, _, rfl, (if_neg (by simp)).mpr ?_⟩
    refine ⟨_, rfl, rfl, _, rfl, (if_pos (by simp)).mpr ?_⟩
    exact ⟨_, rfl, _, rfl, _, _, 1, _, rfl, rfl, hA, rfl, d, lay, [a1], cl, rfl, hc, D, W, fun n hn => lim n (List.mem_cons_of_mem _ hn), q⟩
  · have q : After K c e d lay H Q E (d, Ie02.ints ((List.range (d.w * d.h)).flatMap fun i => Ie02.bytes (d.cell i))) := by cases hc; exact q
    refine ⟨_, rfl, _, _, 0, _, rfl, rfl, hA, rfl, ?_⟩
    refine ⟨_, rfl, rfl, _, rfl, (if_neg (by simp)).mpr ?_⟩
    refine ⟨_, rfl, rfl, _, rfl, (if_neg (by simp)).mpr ?_⟩
    refine ⟨_, rfl, rfl, _, rfl, (if_neg (by simp)).mpr ?_⟩
    refine ⟨_, rfl, rfl, _, rfl, (if_neg (by simp)).mpr ?_⟩
    refine ⟨_, rfl, rfl, _, rfl, (if_neg (by simp)).mpr ?_⟩
    refine ⟨_, rfl, rfl, _, rfl, (if_neg (by simp)).mpr ?_⟩
    refine ⟨_, rfl, rfl, _, rfl, (if_neg (by simp)).mpr ?_⟩
    refine ⟨_, rfl, rfl, _, rfl, (if_neg (by simp)).mpr ?_⟩
    refine ⟨_, rfl, rfl, _, rfl, (if_neg (by simp)).mpr ?_⟩
    refine ⟨_, rfl, rfl, _, rfl, (if_pos (by simp)).mpr ?_⟩
    exact ⟨_, rfl, d, lay, rfl, D, W, fun D0 H' acc => read_fin D q acc⟩
  · rename_i r
    obtain ⟨a1, a2, rfl⟩ : ∃ a1 a2 : Nat, r = [a1, a2] := by
      match r, hc with
      | [a1, a2], _ => exact ⟨a1, a2, rfl⟩
    refine ⟨_, rfl, _, _, 0, _, rfl, rfl, hA, rfl, ?_⟩
    refine ⟨_, rfl, rfl, _, rfl, (if_neg (by simp)).mpr ?_⟩
    refine ⟨_, rfl, rfl, _, rfl, (if_neg (by simp)).mpr ?_⟩
    refine ⟨_, rfl, rfl, _, rfl, (if_neg (by simp)).mpr ?_⟩
    refine ⟨_, rfl, rfl, _, rfl, (if_neg (by simp)).mpr ?_⟩
    refine ⟨_, rfl, rfl, _, rfl, (if_neg (by simp)).mpr ?_⟩
    refine ⟨_, rfl, rfl, _, rfl, (if_neg (by simp)).mpr ?_⟩
    refine ⟨_, rfl, rfl, _, rfl, (if_neg (by simp)).mpr ?_⟩
    refine ⟨_, rfl, rfl, _, rfl, (if_neg (by simp)).mpr ?_⟩
    refine ⟨_, rfl, rfl, _, rfl, (if_neg (by simp)).mpr ?_⟩
    refine ⟨_, rfl, rfl, _, rfl, (if_neg (by simp)).mpr ?_⟩
    refine ⟨_, rfl, rfl, _, rfl, (if_pos (by simp)).mpr ?_⟩
    exact ⟨_, rfl, _, rfl, _, _, 1, _, rfl, rfl, hA, rfl, _, rfl, _, _, 2, _, rfl, rfl, hA, rfl, d, lay, [a1, a2], cl, rfl, hc, D, W, fun n hn => lim n (List.mem_cons_of_mem _ hn), q⟩
  · rename_i r
    obtain ⟨a1, rfl⟩ : ∃ a1 : Nat, r = [a1] := by
      match r, hc with
      | [a1], _ => exact ⟨a1, rfl⟩
    refine ⟨_, rfl, _, _, 0, _, rfl, rfl, hA, rfl, ?_⟩
    refine ⟨_, rfl, rfl, _, rfl, (if_neg (by simp)).mpr ?_⟩
    refine ⟨_, rfl, rfl, _, rfl, (if_neg (by simp)).mpr ?_⟩
    refine ⟨_, rfl, rfl, _, rfl, (if_neg (by simp)).mpr ?_⟩
    refine ⟨_, rfl, rfl, _, rfl, (if_neg (by simp)).mpr ?_⟩
    refine ⟨_, rfl, rfl, _, rfl, (if_neg (by simp)).mpr ?_⟩
    refine ⟨_, rfl, rfl, _, rfl, (if_neg (by simp)).mpr ?_⟩
    refine ⟨_, rfl, rfl, _, rfl, (if_neg (by simp)).mpr ?_⟩
    refine ⟨_, rfl, rfl, _, rfl, (if_neg (by simp)).mpr ?_⟩
    refine ⟨_, rfl, rfl, _, rfl, (if_neg (by simp)).mpr ?_⟩
    refine ⟨_, rfl, rfl, _, rfl, (if_neg (by simp)).mpr ?_⟩
    refine ⟨_, rfl, rfl, _, rfl, (if_neg (by simp)).mpr ?_⟩
    refine ⟨_, rfl, rfl, _, rfl, (if_pos (by simp)).mpr ?_⟩
    exact ⟨_, rfl, _, rfl, _, _, 1, _, rfl, rfl, hA, rfl, d, lay, [a1], cl, rfl, hc, D, W, fun n hn => lim n (List.mem_cons_of_mem _ hn), q⟩
  · rename_i r
    obtain ⟨a1, rfl⟩ : ∃ a1 : Nat, r = [a1] := by
      match r, hc with
      | [a1], _ => exact ⟨a1, rfl⟩
    refine ⟨_, rfl, _, _, 0, _, rfl, rfl, hA, rfl, ?_⟩
    refine ⟨_, rfl, rfl, _, rfl, (if_neg (by simp)).mpr ?_⟩
    refine ⟨_, rfl, rfl, _, rfl, (if_neg (by simp)).mpr ?_⟩
    refine ⟨_, rfl, rfl, _, rfl, (if_neg (by simp)).mpr ?_⟩
    refine ⟨_, rfl, rfl, _, rfl, (if_neg (by simp)).mpr ?_⟩
    refine ⟨_, rfl, rfl, _, rfl, (if_neg (by simp)).mpr ?_⟩
    refine ⟨_, rfl, rfl, _, rfl, (if_neg (by simp)).mpr ?_⟩
    refine ⟨_, rfl, rfl, _, rfl, (if_neg (by simp)).mpr ?_⟩
    refine ⟨_, rfl, rfl, _, rfl, (if_neg (by simp)).mpr ?_⟩
    refine ⟨_, rfl, rfl, _, rfl, (if_neg (by simp)).mpr ?_⟩
    refine ⟨_, rfl, rfl, _, rfl, (if_neg (by simp)).mpr ?_⟩
    refine ⟨_, rfl, rfl, _, rfl, (if_neg (by simp)).mpr ?_⟩
    refine ⟨_, rfl, rfl, _, rfl, (if_neg (by simp)).mpr ?_⟩
    exact ⟨_, rfl, _, rfl, _, _, 1, _, rfl, rfl, hA, rfl, d, lay, [a1], cl, rfl, hc, D, W, fun n hn => lim n (List.mem_cons_of_mem _ hn), q⟩
  · cases hc
end
end
end LH

set_option Elab.async false
set_option linter.all false
set_option maxRecDepth 100000
set_option maxHeartbeats 1000000
namespace LH
open PySem PySem.Spec PyProof.Rows L2
open Ie02 (Frac Px Colour Doc Layer)
open LM
section
variable {X : Cx} {k : Nat} {ps : List Str} {sp : Sp} {x : Str} {p pos : Pos} {e : Expr} {es : List Expr} {t : TA} {W : WX}
theorem pcS (G : DefAt X.prog X.w X.K X.mg X.base (L2.CX X.prog X.w) k x ps sp) (hr : Room k X.A) (tk : Takes X W) (ha : PA X (e :: es) t) (hg : Gl X x := by rfl)
    (hdb : (x == ("__debug__" : Str)) = false := by decide) (he : starEach (e :: es) X.env = (false, eval e X.env) :: starEach es X.env := by rfl) (hpl : (backTo pos (starEach es X.env)).any (·.1) = false := by rfl) :
    PE X (.Call (.Name x p) (e :: es) [] pos) (tCallS sp (WE W) t) := by
  obtain ⟨f, fd, F, hm, hk, hb⟩ := G.ex
  exact pe_callS F hr hg hm hk hb (fun σ => passAt tk σ) ha hdb he hpl
end
section
variable {P : Program} {w : World} {K : PySem.W.Frag} {mg : Str → Option Value} {base : Heap} {c : CAd} {e : Nat → Addr}
abbrev s_answer_call : Stmt := topS 86
abbrev N_answer_call : List Str := ["document", "call"]
abbrev P_answer_call : List Str := ["document", "call"]
theorem sc_answer_call : FnScope N_answer_call P_answer_call (defScope s_answer_call) := ⟨rfl, rfl, rfl, by decide +kernel, rfl, by decide +kernel, by decide +kernel⟩
def spAnsw (K : PySem.W.Frag) (c : CAd) : Sp := fun vs H Q _ => ∃ (d : Doc) (lay : Lay) (A : Addr) (ns : List Nat) (cl : Ie02.Call), vs = [.ref (lay 0 0), .ref A] ∧ SqL K H A (natV ns) ∧ callOf ns = some cl ∧ DocH K c H d lay ∧ WF d ∧ (∀ n ∈ ns, n < 2 ^ 32) ∧
  ∀ (D : Addr) (H' : Hp) (lay' : Lay), DocH K c H' (Ie02.step d cl).1 lay' → Trans H d lay H' (Ie02.step d cl).1 lay' → lay' 0 0 = lay 0 0 → H D = none → H' D = some (.lst ((Ie02.step d cl).2.map V.int)) → ¬ Foot (Ie02.step d cl).1 lay' D → Q (.ref D) H'
theorem d_answer_call (T : TO K mg c e) (X5 : ∀ i j, 1 ≤ i → i ≤ 5 → 1 ≤ j → j ≤ 5 → PySem.W.exmOne K (.ref (e i)) (.ref (e j)) = some (decide (i = j))) (G_run_call : DefAt P w K mg base (L2.CX P w) 61 "run_call" P_run_call (spRun K c e))
    (F : TopFn K mg "answer_call" "answer_call" s_answer_call P_answer_call) : DefAt P w K mg base CX0 62 "answer_call" P_answer_call (spAnsw K c) := by
  refine F.ok sc_answer_call (fun vs H Q E h => ?_) (fun fa cdv A outer s H vs Q E hr h => ?_)
  · obtain ⟨_, _, _, _, _, rfl, _⟩ := h; rfl
  obtain ⟨d, lay, A0, ns, cl, rfl, hA, hc, D, W, lim, q⟩ := h
  have nd := sc_answer_call.nd
  refine ⟨_, (pss_one (ps_try_many (Wout := fun _ _ _ _ => False) rfl rfl takes0 (tb := fun W => tRet (tCallS (spRun K c e) (WE W) (tCons (tVar 0) (tCons (tVar 1) tNil)))) (fun W pn xe tk _ => pss_one (ps_ret (pcS G_run_call (by exact hr) tk (by exact (pa_cons (pv 0) (pa_cons (pv 1) pa_nil))))))
    (.cons (c := .ref (e 1)) ⟨rfl, by decide, .inl T.x_OutOfRange.g⟩ (ts := fun _ _ _ => _) (fun _ _ _ _ _ _ _ => pss_one (ps_ret (pe_lst (pa_cons (pe_un un_neg pe_int) pa_nil))))
    (.cons (c := .ref (e 2)) ⟨rfl, by decide, .inl T.x_NoSuchLayer.g⟩ (ts := fun _ _ _ => _) (fun _ _ _ _ _ _ _ => pss_one (ps_ret (pe_lst (pa_cons (pe_un un_neg pe_int) pa_nil))))
    (.cons (c := .ref (e 3)) ⟨rfl, by decide, .inl T.x_WrongSetting.g⟩ (ts := fun _ _ _ => _) (fun _ _ _ _ _ _ _ => pss_one (ps_ret (pe_lst (pa_cons (pe_un un_neg pe_int) pa_nil))))
    (.cons (c := .ref (e 4)) ⟨rfl, by decide, .inl T.x_CannotClip.g⟩ (ts := fun _ _ _ => _) (fun _ _ _ _ _ _ _ => pss_one (ps_ret (pe_lst (pa_cons (pe_un un_neg pe_int) pa_nil))))
    (.cons (c := .ref (e 5)) ⟨rfl, by decide, .inl T.x_TooFewLayers.g⟩ (ts := fun _ _ _ => _) (fun _ _ _ _ _ _ _ => pss_one (ps_ret (pe_lst (pa_cons (pe_un un_neg pe_int) pa_nil)))) .nil))))))), ?_⟩
  have fin : ∀ (k : Nat) (H1 : Hp), Ie02.step d cl = (d, [-(k : Int)]) → Same H H1 → ∀ D0, H1 D0 = none → Q (.ref D0) (upd H1 D0 (.lst [.int (-(k : Int))])) := fun k H1 hk s1 D0 hD0 => by
    have s2 := s1.trans (Same.new (o := .lst [.int (-(k : Int))]) hD0)
    rw [hk] at q
    refine q D0 _ lay (D.mono s2) (Trans.same s2) rfl (s1.free hD0) upd_same fun f => ?_
    obtain ⟨u, h⟩ := foot_some D.s f
    rw [s1.free hD0] at h
    cases h
  refine ⟨_, rfl, _, rfl, d, lay, A0, ns, cl, rfl, hA, hc, D, W, lim, ⟨fun k H1 h1 h5 hk s1 => ?_, fun D0 H' lay' a1 a2 a3 a4 a5 a6 => q D0 H' lay' a1 a2 a3 a4 a5 a6⟩⟩
  rcases (show k = 1 ∨ k = 2 ∨ k = 3 ∨ k = 4 ∨ k = 5 by omega) with rfl | rfl | rfl | rfl | rfl
  · exact ⟨true, X5 1 1 (by decide) (by decide) (by decide) (by decide), (fun _ a ha => ⟨_, rfl, (by show 1 ≤ sizeLine; decide), fin 1 H1 hk s1⟩), (fun z => by cases z)⟩
  · exact ⟨false, X5 2 1 (by decide) (by decide) (by decide) (by decide), (fun z => by cases z), fun _ => ⟨true, X5 2 2 (by decide) (by decide) (by decide) (by decide), (fun _ a ha => ⟨_, rfl, (by show 1 ≤ sizeLine; decide), fin 2 H1 hk s1⟩), (fun z => by cases z)⟩⟩
  · exact ⟨false, X5 3 1 (by decide) (by decide) (by decide) (by decide), (fun z => by cases z), fun _ => ⟨false, X5 3 2 (by decide) (by decide) (by decide) (by decide), (fun z => by cases z), fun _ => ⟨true, X5 3 3 (by decide) (by decide) (by decide) (by decide), (fun _ a ha => ⟨_, rfl, (by show 1 ≤ sizeLine; decide), fin 3 H1 hk s1⟩), (fun z => by cases z)⟩⟩⟩
  · exact ⟨false, X5 4 1 (by decide) (by decide) (by decide) (by decide), (fun z => by cases z), fun _ => ⟨false, X5 4 2 (by decide) (by decide) (by decide) (by decide), (fun z => by cases z), fun _ => ⟨false, X5 4 3 (by decide) (by decide) (by decide) (by decide), (fun z => by cases z), fun _ => ⟨true, X5 4 4 (by decide) (by decide) (by decide) (by decide), (fun _ a ha => ⟨_, rfl, (by show 1 ≤ sizeLine; decide), fin 4 H1 hk s1⟩), (fun z => by cases z)⟩⟩⟩⟩
  · exact ⟨false, X5 5 1 (by decide) (by decide) (by decide) (by decide), (fun z => by cases z), fun _ => ⟨false, X5 5 2 (by decide) (by decide) (by decide) (by decide), (fun z => by cases z), fun _ => ⟨false, X5 5 3 (by decide) (by decide) (by decide) (by decide), (fun z => by cases z), fun _ => ⟨false, X5 5 4 (by decide) (by decide) (by decide) (by decide), (fun z => by cases z), fun _ => ⟨true, X5 5 5 (by decide) (by decide) (by decide) (by decide), (fun _ a ha => ⟨_, rfl, (by show 1 ≤ sizeLine; decide), fin 5 H1 hk s1⟩), (fun z => by cases z)⟩⟩⟩⟩⟩
end
end LH

set_option Elab.async false
set_option linter.all false
set_option maxRecDepth 100000
set_option maxHeartbeats 1000000
namespace LH
open PySem PySem.Spec PyProof.Rows L2
open Ie02 (Frac Px Colour Doc Layer)
open LM
/-! what a call leaves of a document that is well formed -/
theorem boxed_mem {α : Type} {w x y u v : Nat} {z a : α} {l : List α} (h : a ∈ Ie02.boxed w x y u v z l) : a = z ∨ a ∈ l := by
  unfold Ie02.boxed at h
  obtain ⟨q, hq, e⟩ := List.mem_map.mp h
  by_cases c : Ie02.inBox w x y u v q.2 = true
  · rw [if_pos c] at e
    exact .inl e.symm
  · rw [if_neg c] at e
    refine .inr ?_
    rw [← e]
    have := List.mem_zipIdx hq
    obtain ⟨_, _, e2⟩ := this
    rw [e2]
    exact List.getElem_mem _
theorem boxed_len {α : Type} {w x y u v : Nat} {z : α} {l : List α} : (Ie02.boxed w x y u v z l).length = l.length := by
  unfold Ie02.boxed
  rw [List.length_map, List.length_zipIdx]
theorem added_wf {d : Doc} (W : WF d) (p : Nat) (k : LKind) : WF (d.added p k).1 := by
  cases tk : d.takes p with
  | false => rw [added_no tk]; exact W
  | true =>
    by_cases h2 : Ie02.LAYERS ≤ d.layers.length ∨ Ie02.LOW ≤ d.depth Ie02.LAYERS p
    · rw [added_full tk h2]; exact W
    · rw [added_ok tk h2]
      obtain ⟨f, L⟩ := W.lev
      have hp := (takes_iff W.ids p).mp tk
      have e12 : Ie02.LAYERS = 12 := rfl
      have e4 : Ie02.LOW = 4 := rfl
      have de : d.depth Ie02.LAYERS p = f p := depth_eq W.ids L _ _ (by have := L.le4 hp.known; omega) hp.known
      rw [de] at h2
      exact wf_push W L rfl hp (by show f p < 4; omega) (by omega) (new_ok _ _ _ _)
theorem step_wf {d : Doc} (W : WF d) (cl : Ie02.Call) : WF (Ie02.step d cl).1 := by
  cases cl with
  | page w h =>
    simp only [Ie02.step]
    split
    · exact W
    · exact wf_page (by omega) (by omega) (by omega) (by omega)
  | layer p => exact added_wf W p _
  | group p t =>
    simp only [Ie02.step]
    split
    · exact W
    · exact added_wf W p _
  | change p t =>
    simp only [Ie02.step]
    split
    · exact W
    · exact added_wf W p _
  | paint i x y u v r g b a =>
    simp only [Ie02.step]
    split
    · exact W
    · split
      · exact W
      · split
        · exact W
        · refine wf_edit W ⟨fun _ => rfl, fun _ => rfl, fun _ => rfl⟩ fun l o => ⟨o.op, o.mode, o.mlen, o.mask, by rw [← o.clen]; exact boxed_len, fun q hq => ?_⟩
          rcases boxed_mem hq with rfl | hq
          · exact ⟨by show r ≤ 255; omega, by show g ≤ 255; omega, by show b ≤ 255; omega, by show a ≤ 255; omega⟩
          · exact o.cells q hq
  | mask i x y u v m =>
    simp only [Ie02.step]
    split
    · exact W
    · split
      · exact W
      · refine wf_edit W ⟨fun _ => rfl, fun _ => rfl, fun _ => rfl⟩ fun l o => ⟨o.op, o.mode, by rw [← o.mlen]; exact boxed_len, fun q hq => ?_, o.clen, o.cells⟩
        rcases boxed_mem hq with rfl | hq
        · omega
        · exact o.mask q hq
  | set i m o cp sh =>
    simp only [Ie02.step]
    split
    · exact W
    · split
      · exact W
      · split
        · exact W
        · rename_i h1 h2
          have e : Ie02.MODES = 12 := rfl
          exact wf_edit W ⟨fun _ => rfl, fun _ => rfl, fun _ => rfl⟩ fun l ok => ⟨by show o ≤ 255; omega, by show m ≤ 11; omega, ok.mlen, ok.mask, ok.clen, ok.cells⟩
  | move i p k =>
    simp only [Ie02.step]
    split
    · exact W
    · rename_i l hf
      obtain ⟨hl, rfl⟩ := find_mem hf
      split
      · exact W
      · split
        · exact W
        · split
          · exact W
          · rename_i h1 h2 _
            obtain ⟨f, L⟩ := W.lev
            have tk : d.takes p = true := by
              cases e : d.takes p with
              | true => rfl
              | false => exact (h1 (.inl e)).elim
            have hp := (takes_iff W.ids p).mp tk
            have e12 : Ie02.LAYERS = 12 := rfl
            have e4 : Ie02.LOW = 4 := rfl
            have de : d.depth Ie02.LAYERS p = f p := depth_eq W.ids L _ _ (by have := L.le4 hp.known; omega) hp.known
            have wi := within_iff W.ids L l.id (Ie02.LAYERS + 1) p (by have := L.le4 hp.known; show f p < 13; omega) hp.known
            rw [de] at h2
            exact wf_move W L hl hp (fun z => h1 (.inr (wi.mpr z))) (by omega)
  | drop i =>
    simp only [Ie02.step]
    split
    · exact W
    · exact wf_drop W i
  | picture => exact W
  | cell x y => exact W
  | alone i => exact W
  | list p => exact W
/-! calls as numbers -/
def runN (s : Doc × List Int) (ns : List Nat) : Doc × List Int := match callOf ns with
  | some cl => ((Ie02.step s.1 cl).1, s.2 ++ (((Ie02.step s.1 cl).2.length : Int) :: (Ie02.step s.1 cl).2))
  | none => s
theorem runN_len : ∀ (css : List (List Nat)) (s : Doc × List Int), s.2.length ≤ (css.foldl runN s).2.length
  | [], _ => Nat.le_refl _
  | ns :: r, s => by
    refine Nat.le_trans ?_ (runN_len r (runN s ns))
    unfold runN
    split
    · rw [List.length_append]; omega
    · exact Nat.le_refl _
theorem runN_wf : ∀ (css : List (List Nat)) (s : Doc × List Int), WF s.1 → WF (css.foldl runN s).1
  | [], _, W => W
  | ns :: r, s, W => by
    refine runN_wf r _ ?_
    unfold runN
    split
    · exact step_wf W _
    · exact W
def argc : List Nat := [2, 1, 2, 2, 9, 6, 5, 3, 1, 0, 2, 1, 1]
theorem call_len {ns : List Nat} {cl : Ie02.Call} (h : callOf ns = some cl) : ∃ p r n, ns = p :: r ∧ argc[p]? = some n ∧ r.length = n := by
  unfold callOf at h
  split at h
  · rename_i r; match r, h with | [_, _], _ => exact ⟨_, _, _, rfl, rfl, rfl⟩
  · rename_i r; match r, h with | [_], _ => exact ⟨_, _, _, rfl, rfl, rfl⟩
  · rename_i r; match r, h with | [_, _], _ => exact ⟨_, _, _, rfl, rfl, rfl⟩
  · rename_i r; match r, h with | [_, _], _ => exact ⟨_, _, _, rfl, rfl, rfl⟩
  · rename_i r; match r, h with | [_, _, _, _, _, _, _, _, _], _ => exact ⟨_, _, _, rfl, rfl, rfl⟩
  · rename_i r; match r, h with | [_, _, _, _, _, _], _ => exact ⟨_, _, _, rfl, rfl, rfl⟩
  · rename_i r; match r, h with | [_, _, _, _, _], _ => exact ⟨_, _, _, rfl, rfl, rfl⟩
  · rename_i r; match r, h with | [_, _, _], _ => exact ⟨_, _, _, rfl, rfl, rfl⟩
  · rename_i r; match r, h with | [_], _ => exact ⟨_, _, _, rfl, rfl, rfl⟩
  · exact ⟨_, _, _, rfl, rfl, rfl⟩
  · rename_i r; match r, h with | [_, _], _ => exact ⟨_, _, _, rfl, rfl, rfl⟩
  · rename_i r; match r, h with | [_], _ => exact ⟨_, _, _, rfl, rfl, rfl⟩
  · rename_i r; match r, h with | [_], _ => exact ⟨_, _, _, rfl, rfl, rfl⟩
  · cases h
theorem callIn_of {ns : List Nat} {cl : Ie02.Call} (h : Ie02Neutral.callIn ns = some cl) : callOf ns = some cl := by
  unfold Ie02Neutral.callIn at h
  split at h <;> first | exact h | cases h
end LH

set_option Elab.async false
set_option linter.all false
set_option maxRecDepth 100000
set_option maxHeartbeats 1000000
namespace LH
open PySem PySem.Spec PyProof.Rows L2
open Ie02 (Frac Px Colour Doc Layer)
open LM
/-! what is asked, as calls of natural numbers -/
theorem shape_zero {p : Int} {n k : Nat} (h : PyIe02.shape p = some (n, k)) : k = 0 := by
  unfold PyIe02.shape at h
  by_cases e0 : p = 0
  · rw [if_pos e0] at h; cases h; rfl
  rw [if_neg e0] at h
  by_cases e1 : p = 1
  · rw [if_pos e1] at h; cases h; rfl
  rw [if_neg e1] at h
  by_cases e2 : p = 2
  · rw [if_pos e2] at h; cases h; rfl
  rw [if_neg e2] at h
  by_cases e3 : p = 3
  · rw [if_pos e3] at h; cases h; rfl
  rw [if_neg e3] at h
  by_cases e4 : p = 4
  · rw [if_pos e4] at h; cases h; rfl
  rw [if_neg e4] at h
  by_cases e5 : p = 5
  · rw [if_pos e5] at h; cases h; rfl
  rw [if_neg e5] at h
  by_cases e6 : p = 6
  · rw [if_pos e6] at h; cases h; rfl
  rw [if_neg e6] at h
  by_cases e7 : p = 7
  · rw [if_pos e7] at h; cases h; rfl
  rw [if_neg e7] at h
  by_cases e8 : p = 8
  · rw [if_pos e8] at h; cases h; rfl
  rw [if_neg e8] at h
  by_cases e9 : p = 9
  · rw [if_pos e9] at h; cases h; rfl
  rw [if_neg e9] at h
  by_cases e10 : p = 10
  · rw [if_pos e10] at h; cases h; rfl
  rw [if_neg e10] at h
  by_cases e11 : p = 11
  · rw [if_pos e11] at h; cases h; rfl
  rw [if_neg e11] at h
  by_cases e12 : p = 12
  · rw [if_pos e12] at h; cases h; rfl
  rw [if_neg e12] at h
  cases h
theorem whole_id (c : List (List Int)) : PyIe02.whole c = c := by
  unfold PyIe02.whole
  split <;> rfl
theorem call_one {l : List Int} {c : List (List Int)} {t : List Int} (h : PyFlat.call PyIe02.shape l = some (c, t)) : ∃ seg, c = [seg] ∧ l = seg ++ t := by
  cases l with
  | nil => cases h
  | cons p r =>
    unfold PyFlat.call at h
    dsimp only at h
    cases hs : PyIe02.shape p with
    | none => rw [hs] at h; cases h
    | some nk =>
      obtain ⟨n, k⟩ := nk
      have := shape_zero hs
      subst this
      rw [hs] at h
      dsimp only at h
      split at h
      · cases h
      · unfold PyFlat.rows at h
        cases h
        exact ⟨p :: r.take n, rfl, by rw [List.cons_append, List.take_append_drop]⟩
theorem calls_flat : ∀ (f : Nat) (l : List Int) (raw : List (List (List Int))), PyFlat.calls PyIe02.shape f l = some raw → l = (raw.map fun c => c.headD []).flatten ∧ ∀ c ∈ raw, c = [c.headD []]
  | _, [], raw, h => by
    have : raw = [] := by
      cases ‹Nat› <;> (unfold PyFlat.calls at h; exact (Option.some.inj h).symm)
    subst this
    exact ⟨rfl, fun c hc => by cases hc⟩
  | 0, _ :: _, raw, h => by cases h
  | f + 1, p :: r, raw, h => by
    unfold PyFlat.calls at h
    cases hc : PyFlat.call PyIe02.shape (p :: r) with
    | none => rw [hc] at h; cases h
    | some ct =>
      obtain ⟨c, t⟩ := ct
      rw [hc] at h
      dsimp only at h
      obtain ⟨seg, rfl, e⟩ := call_one hc
      cases hcs : PyFlat.calls PyIe02.shape f t with
      | none => rw [hcs] at h; cases h
      | some cs =>
        rw [hcs] at h
        cases h
        obtain ⟨e2, a2⟩ := calls_flat f t cs hcs
        refine ⟨?_, fun c hc => ?_⟩
        · rw [e, List.map_cons, List.flatten_cons, ← e2]
          rfl
        · rcases List.mem_cons.mp hc with rfl | hc
          · rfl
          · exact a2 c hc
theorem nat_back {seg : List Int} (h : seg.all Ie02Neutral.nat = true) : intsN (seg.map Int.toNat) = seg ∧ ∀ n ∈ seg.map Int.toNat, n < 2 ^ 32 := by
  rw [List.all_eq_true] at h
  have p32 : (2 : Int) ^ 32 = 4294967296 := by decide
  have p32n : (2 : Nat) ^ 32 = 4294967296 := by decide
  have z : ∀ x ∈ seg, 0 ≤ x ∧ x < 4294967296 := fun x hx => by
    have := h x hx
    unfold Ie02Neutral.nat at this
    rw [Bool.and_eq_true, decide_eq_true_eq, decide_eq_true_eq, p32] at this
    exact this
  refine ⟨?_, fun n hn => ?_⟩
  · unfold intsN
    rw [List.map_map]
    conv => rhs; rw [← List.map_id seg]
    refine List.map_congr_left fun x hx => ?_
    have := (z x hx).1
    show ((Int.toNat x : Nat) : Int) = x
    omega
  · obtain ⟨x, hx, rfl⟩ := List.mem_map.mp hn
    have := z x hx
    omega
def natsOf (c : List (List Int)) : List Nat := (c.headD []).map Int.toNat
structure OkCall (c : List (List Int)) : Prop where
  ex : ∃ cl, callOf (natsOf c) = some cl ∧ Ie02Neutral.callOf (c.headD []) = some cl
  back : intsN (natsOf c) = c.headD []
  lim : ∀ n ∈ natsOf c, n < 2 ^ 32
theorem ok_call {c : List (List Int)} (h : Ie02Neutral.asked1 (c.headD []) = true) : OkCall c := by
  unfold Ie02Neutral.asked1 at h
  cases hc : Ie02Neutral.callOf (c.headD []) with
  | none => rw [hc] at h; cases h
  | some cl =>
    have h2 := hc
    unfold Ie02Neutral.callOf at h2
    split at h2
    · cases h2
    · rename_i ha
      have ha : (c.headD []).all Ie02Neutral.nat = true := by simpa using ha
      obtain ⟨b, l⟩ := nat_back ha
      exact ⟨⟨cl, callIn_of h2, hc⟩, b, l⟩
theorem played_run : ∀ (raw : List (List (List Int))) (s : Doc) (acc : List Int), (∀ c ∈ raw, OkCall c) → ((raw.map natsOf).foldl runN (s, acc)).2 = acc ++ PyFlat.told (PyFlat.played (fun s c => Ie02Neutral.step s (c.headD [])) s raw)
  | [], s, acc, _ => by
    show acc = acc ++ []
    rw [List.append_nil]
  | c :: r, s, acc, h => by
    obtain ⟨⟨cl, h1, h2⟩, _, _⟩ := h c List.mem_cons_self
    have e1 : runN (s, acc) (natsOf c) = ((Ie02.step s cl).1, acc ++ (((Ie02.step s cl).2.length : Int) :: (Ie02.step s cl).2)) := by
      unfold runN
      rw [h1]
    have e2 : Ie02Neutral.step s (c.headD []) = Ie02.step s cl := by
      unfold Ie02Neutral.step
      rw [h2]
    rw [List.map_cons, List.foldl_cons, e1, played_run r _ _ fun x hx => h x (List.mem_cons_of_mem _ hx), List.append_assoc]
    congr 1
    have e3 : PyFlat.played (fun s c => Ie02Neutral.step s (c.headD [])) s (c :: r) = (Ie02Neutral.step s (c.headD [])).2 :: PyFlat.played (fun s c => Ie02Neutral.step s (c.headD [])) (Ie02Neutral.step s (c.headD [])).1 r := rfl
    rw [e3, e2]
    unfold PyFlat.told
    rw [List.flatMap_cons]
theorem asked_calls {l : List Int} (h : PyIe02.answers_asked l = true) : ∃ css : List (List Nat), l = intsN css.flatten ∧ (∀ ns ∈ css, (∃ cl, callOf ns = some cl) ∧ ∀ n ∈ ns, n < 2 ^ 32) ∧ css.length ≤ 40 ∧ PyIe02.answers l = (css.foldl runN (Ie02.init, [])).2 ∧ (css.foldl runN (Ie02.init, [])).2.length ≤ 10000000 := by
  unfold PyIe02.answers_asked at h
  cases hr : PyFlat.calls PyIe02.shape l.length l with
  | none => rw [hr] at h; cases h
  | some raw =>
    rw [hr] at h
    dsimp only at h
    rw [Bool.and_eq_true, Bool.and_eq_true, Bool.and_eq_true, Bool.and_eq_true] at h
    obtain ⟨⟨⟨⟨_, h40⟩, _⟩, ha⟩, hs⟩ := h
    have wid : raw.map PyIe02.whole = raw := by
      conv => rhs; rw [← List.map_id raw]
      exact List.map_congr_left fun c _ => whole_id c
    rw [wid] at ha
    have h40 : raw.length ≤ 40 := of_decide_eq_true h40
    unfold Ie02Neutral.asked at ha
    rw [Bool.and_eq_true] at ha
    have ok : ∀ c ∈ raw, OkCall c := fun c hc => ok_call (List.all_eq_true.mp ha.1 _ (List.mem_map_of_mem hc))
    obtain ⟨e, _⟩ := calls_flat _ _ _ hr
    have ea : PyIe02.answers l = ((raw.map natsOf).foldl runN (Ie02.init, [])).2 := by
      rw [played_run raw Ie02.init [] ok, List.nil_append]
      unfold PyIe02.answers PyIe02.calls
      rw [hr]
      dsimp only
      rw [wid]
      rfl
    refine ⟨raw.map natsOf, ?_, fun ns hns => ?_, by rw [List.length_map]; exact h40, ea, ?_⟩
    · conv => lhs; rw [e]
      have : ∀ rw_ : List (List (List Int)), (∀ c ∈ rw_, OkCall c) → (rw_.map fun c => c.headD []).flatten = intsN (rw_.map natsOf).flatten := fun rw_ hk => by
        induction rw_ with
        | nil => rfl
        | cons c r ih =>
          rw [List.map_cons, List.map_cons, List.flatten_cons, List.flatten_cons, ih fun x hx => hk x (List.mem_cons_of_mem _ hx), ← (hk c List.mem_cons_self).back]
          unfold intsN
          rw [List.map_append]
      exact this raw ok
    · obtain ⟨c, hc, rfl⟩ := List.mem_map.mp hns
      obtain ⟨⟨cl, h1, _⟩, _, l2⟩ := ok c hc
      exact ⟨⟨cl, h1⟩, l2⟩
    · rw [← ea]
      exact of_decide_eq_true hs
end LH

set_option Elab.async false
set_option linter.all false
set_option maxRecDepth 100000
set_option maxHeartbeats 1000000
namespace LH
open PySem PySem.Spec PyProof.Rows L2
open Ie02 (Frac Px Colour Doc Layer)
open LM
theorem cut_nat (a ns b : List Nat) : cutV (natV (a ++ ns ++ b)) (some ((a.length : Nat) : Int)) (some ((a.length + ns.length : Nat) : Int)) = natV ns := by
  have e1 : HT.sIx (natV (a ++ ns ++ b)).length 0 (some ((a.length : Nat) : Int)) = a.length := by
    rw [natV_length]
    unfold HT.sIx
    simp only [List.length_append]
    split <;> omega
  have e2 : HT.sIx (natV (a ++ ns ++ b)).length (natV (a ++ ns ++ b)).length (some ((a.length + ns.length : Nat) : Int)) = a.length + ns.length := by
    rw [natV_length]
    unfold HT.sIx
    simp only [List.length_append]
    split <;> omega
  unfold cutV
  rw [e1, e2, natV_append, natV_append, List.append_assoc, List.drop_append_of_le_length (by rw [natV_length]; exact Nat.le_refl _)]
  rw [List.drop_of_length_le (by rw [natV_length]; exact Nat.le_refl _), List.nil_append, Nat.add_sub_cancel_left, List.take_append_of_le_length (by rw [natV_length]; exact Nat.le_refl _)]
  exact List.take_of_length_le (by rw [natV_length]; exact Nat.le_refl _)
def NsD (H0 : Hp) (D : Addr) (H : Hp) (v : V) (ns : List Nat) : Prop := ∃ b, v = .ref b ∧ b ≠ D ∧ H0 b = none ∧ H b = some (.lst (natV ns))
def NsAt (H0 H : Hp) (v : V) (ns : List Nat) : Prop := ∃ b, v = .ref b ∧ H0 b = none ∧ H b = some (.lst (natV ns))
section
variable {P : Program} {w : World} {K : PySem.W.Frag} {mg : Str → Option Value} {base : Heap} {c : CAd} {e : Nat → Addr}
structure TS (K : PySem.W.Frag) (mg : Str → Option Value) (c : CAd) (e : Nat → Addr) (aC : Addr) : Prop extends TO K mg c e where
  c_ARGUMENT_COUNTS : mg "ARGUMENT_COUNTS" = some (.ref aC)
  counts : ∀ H, SqT K H aC (natV argc)
def spSplit (K : PySem.W.Frag) : Sp := fun vs H Q _ => ∃ (a : Addr) (css : List (List Nat)), vs = [.ref a] ∧ SqL K H a (natV css.flatten) ∧ (∀ ns ∈ css, ∃ cl, callOf ns = some cl) ∧ css.length ≤ 40 ∧
  ∀ D H' xs, Same H H' → H D = none → H' D = some (.lst xs) → Paired (NsAt H H') xs css → Q (.ref D) H'
abbrev s_split_calls : Stmt := topS 84
abbrev N_split_calls : List Str := ["calls", "single", "start", "end"]
abbrev P_split_calls : List Str := ["calls"]
theorem sc_split_calls : FnScope N_split_calls P_split_calls (defScope s_split_calls) := ⟨rfl, rfl, rfl, by decide +kernel, rfl, by decide +kernel, by decide +kernel⟩
theorem d_split_calls {aC : Addr} (T : TS K mg c e aC) (F : TopFn K mg "split_calls" "split_calls" s_split_calls P_split_calls) : DefAt P w K mg base CX0 38 "split_calls" P_split_calls (spSplit K) := by
  refine F.ok sc_split_calls (fun vs H Q E h => ?_) (fun fa cdv A outer s H vs Q E hr h => ?_)
  · obtain ⟨_, _, rfl, _⟩ := h; rfl
  obtain ⟨a, css, rfl, ha, ok, len, q⟩ := h
  have nd := sc_split_calls.nd
  refine ⟨_, (pss_cons (ps_set (i := 1) nd rfl (Or.inl rfl) (pe_lst pa_nil)) (pss_cons (ps_set (i := 2) nd rfl (Or.inl rfl) pe_int) (pss_cons (ps_while PassesOwn.never (pt_cmpR op_lt (pv 2) (pe_callB call_len_seq (by rfl) T.n_len (by decide +kernel) (pa_cons (pv 0) pa_nil)) (nomark _)) (pss_cons (ps_set (i := 3) nd rfl (Or.inl rfl) (pe_op op_add (pe_op op_add (pv 2) pe_int) (pe_ix (r := rIxT K) ix_tup (pe_glob (v := .ref _) rfl T.c_ARGUMENT_COUNTS rfl) (pe_ix (r := rIxL K) ix_list (pv 0) (pv 2) (fun _ _ => rfl)) (fun _ _ => rfl)))) (pss_cons (ps_expr (pe_bm PySem.F.plainAttrs_list PySem.F.slot_list_append PySem.F.type_list_append mt_append (pv 1) (pa_cons (pe_slice sl_list (pv 0) (po_some (pv 2)) (po_some (pv 3))) pa_nil))) (pss_one (ps_set (i := 2) nd rfl (Or.inl rfl) (pv 3)))))) (pss_one (ps_ret (pv 1)))))), ?_⟩
  have len40 : css.flatten.length ≤ 400 := by
    have : ∀ l : List (List Nat), (∀ ns ∈ l, ∃ cl, callOf ns = some cl) → l.flatten.length ≤ 10 * l.length := fun l h => by
      induction l with
      | nil => exact Nat.le_refl _
      | cons ns r ih =>
        obtain ⟨cl, hc⟩ := h ns List.mem_cons_self
        obtain ⟨p, t, n, rfl, hn, hl⟩ := call_len hc
        have h9 : n ≤ 9 := by
          have := List.mem_of_getElem? hn
          unfold argc at this
          simp only [List.mem_cons, List.not_mem_nil, or_false] at this
          omega
        have := ih fun x hx => h x (List.mem_cons_of_mem _ hx)
        rw [List.flatten_cons, List.length_append, List.length_cons, List.length_cons]
        omega
    have := this css ok
    omega
  refine ⟨(by show 0 ≤ sizeLine; decide), fun D hD => ?_⟩
  refine ⟨fun m σ H' => ∃ (done rest : List (List Nat)) (xs : List V) (z : Option V), m = rest.length ∧ css = done ++ rest ∧ Same H H' ∧ H' D = some (.lst xs) ∧ Paired (NsD H D H') xs done ∧ σ = [some (.ref a), some (.ref D), some (.int (done.flatten.length : Int)), z],
    ⟨css.length, [], css, [], none, rfl, rfl, Same.new hD, upd_same, .nil, rfl⟩, ?_⟩
  rintro m σ H' ⟨done, rest, xs, z, rfl, rfl, sm, hx, pr, rfl⟩
  have ha' := Same.seq sm ha
  refine ⟨_, rfl, _, rfl, a, _, rfl, .inl ha', _, _, rfl, rfl, _, rfl, ?_⟩
  rw [natV_length]
  cases rest with
  | nil =>
    rw [List.append_nil]
    refine (if_neg (by simp)).mpr ?_
    rw [List.append_nil] at q
    exact ⟨_, rfl, q D H' xs sm hD hx (L2.Paired.mapP pr fun _ _ ⟨y, e1, _, e2⟩ => ⟨y, e1, e2⟩)⟩
  | cons ns r =>
    obtain ⟨cl, hc⟩ := ok ns (List.mem_append_right _ List.mem_cons_self)
    obtain ⟨p, t, n, rfl, hn, hl⟩ := call_len hc
    have fl : (done ++ (p :: t) :: r).flatten = done.flatten ++ (p :: t) ++ r.flatten := by
      rw [List.flatten_append, List.flatten_cons, List.append_assoc]
    have fl2 : (done ++ (p :: t) :: r).flatten.length = done.flatten.length + (t.length + 1) + r.flatten.length := by
      rw [fl, List.length_append, List.length_append, List.length_cons]
    refine (if_pos (by simp only [decide_eq_true_eq]; omega)).mpr ?_
    refine ⟨fun σ H'' => ∃ (xs : List V) (z : Option V), Same H H'' ∧ H'' D = some (.lst xs) ∧ Paired (NsD H D H'') xs (done ++ [p :: t]) ∧ σ = [some (.ref a), some (.ref D), some (.int ((done ++ [p :: t]).flatten.length : Int)), z], ?_, ?_⟩
    · rintro σ' H'' ⟨xs', z', sm', hx', pr', rfl⟩
      exact ⟨r.length, by rw [List.length_cons]; omega, done ++ [p :: t], r, xs', z', rfl, by rw [List.append_assoc]; rfl, sm', hx', pr', rfl⟩
    have hp : (natV (done ++ (p :: t) :: r).flatten)[done.flatten.length]? = some (.int (p : Int)) := by
      rw [fl]
      refine natV_get ?_
      rw [List.append_assoc, List.getElem?_append_right (Nat.le_refl _), Nat.sub_self]
      rfl
    refine ⟨_, rfl, _, _, rfl, rfl, _, rfl, _, rfl, a, _, _, _, rfl, rfl, ha', atI_nat hp, aC, _, _, _, rfl, rfl, T.counts _, atI_nat (natV_get hn), _, _, rfl, rfl, ?_⟩
    have ee : ((done.flatten.length : Int) + 1 + (n : Int)) = ((done.flatten.length + (p :: t).length : Nat) : Int) := by
      rw [List.length_cons]
      omega
    refine ⟨_, rfl, .inl ⟨rfl, _, .of hx⟩, _, rfl, _, rfl, _, rfl, _, rfl, _, rfl, a, _, rfl, ha', fun b hb => ?_⟩
    have cut := cut_nat done.flatten (p :: t) r.flatten
    rw [← fl, ← ee] at cut
    have sb : Same H' (upd H' b (.lst (natV (p :: t)))) := Same.new hb
    rw [cut]
    have hx2 := sb _ _ hx
    have xl := pr.length
    have nb : b ≠ D := fun z => by rw [z, hx] at hb; cases hb
    have hb2 : upd H' b (.lst (natV (p :: t))) b = some (.lst (natV (p :: t))) := upd_same
    generalize upd H' b (.lst (natV (p :: t))) = H2 at sb hx2 hb2
    have pr2 : Paired (NsD H D (upd H2 D (.lst (xs ++ [.ref b])))) xs done := L2.Paired.mapP pr fun _ _ ⟨y, e1, ny, e0, e2⟩ => ⟨y, e1, ny, e0, by rw [upd_ne ny]; exact sb _ _ e2⟩
    have len : done.length ≤ 40 := by
      rw [List.length_append] at len
      omega
    refine ⟨D, xs, .ref b, rfl, rfl, hx2, ?_, ?_⟩
    · have : (40 : Nat) < sizeLine := by decide
      omega
    refine ⟨_, rfl, xs ++ [.ref b], some (.int ((done.flatten.length : Int) + 1 + (n : Int))), Same.updNew (sm.trans sb) hD, upd_same, paired_app pr2 (.cons ⟨b, rfl, nb, sm.free hb, by rw [upd_ne nb]; exact hb2⟩ .nil), ?_⟩
    have fe : ((done ++ [p :: t]).flatten.length : Int) = (done.flatten.length : Int) + 1 + (n : Int) := by
      rw [List.flatten_append, List.length_append, List.flatten_cons, List.flatten_nil, List.append_nil, ee]
    rw [fe]
    rfl
end
end LH

set_option Elab.async false
set_option linter.all false
set_option maxRecDepth 100000
set_option maxHeartbeats 1000000
namespace LH
open PySem PySem.Spec PyProof.Rows L2
open Ie02 (Frac Px Colour Doc Layer)
open LM
section
variable {K : PySem.W.Frag} {c : CAd}
theorem DocH.away {H : Hp} {d : Doc} {lay : Lay} {T : Addr} {xs : List V} {o : HO} (D : DocH K c H d lay) (nf : ¬ Foot d lay T) (hT : H T = some (.lst xs)) : DocH K c (upd H T o) d lay := by
  have k : ∀ {i p : Nat} {u : HO}, Used d i p → H (lay i p) = some u → upd H T o (lay i p) = some u := fun {i p u} hu h => by
    rw [upd_ne (fun e => nf ⟨i, p, hu, e⟩)]
    exact h
  refine ⟨⟨⟨?_, ?_, fun l hl => ?_⟩, fun p hp => k (usedP hp) (D.s.m p hp), fun l hl => k (usedL hl (Nat.le_refl _)) (D.s.k l hl), fun l hl hk => ?_⟩, D.inj⟩
  · obtain ⟨dx, h⟩ := D.s.i.doc
    exact ⟨dx, k (used0 (by decide)) h⟩
  · obtain ⟨kvs, h, p⟩ := D.s.i.dict
    exact ⟨kvs, k (used0 (by decide)) h, p⟩
  · obtain ⟨dx, h⟩ := D.s.i.ins l hl
    exact ⟨dx, k (usedL hl (Nat.zero_le _)) h⟩
  · obtain ⟨ys, h, cs⟩ := D.s.p l hl hk
    exact ⟨ys, k (usedC hl (by rw [hk]; rfl)) h, L2.Paired.mapP cs fun _ _ ⟨a, e, s⟩ => ⟨a, e, LH.SqT.updL s hT⟩⟩
theorem Trans.nf {H H' : Hp} {d d' : Doc} {lay lay' : Lay} (t : Trans H d lay H' d' lay') {a : Addr} {u : HO} (h : H a = some u) (n : ¬ Foot d lay a) : ¬ Foot d' lay' a := fun f => by
  rcases t.new a f with g | g
  · exact n g
  · rw [h] at g; cases g
end
def SegAt (H : Hp) (d : Doc) (lay : Lay) (T : Addr) (v : V) (ns : List Nat) : Prop := ∃ b, v = .ref b ∧ b ≠ T ∧ ¬ Foot d lay b ∧ H b = some (.lst (natV ns))
structure LoopAt (K : PySem.W.Frag) (c : CAd) (lay0 : Lay) (T D : Addr) (xs : List V) (css : List (List Nat)) (s : Doc × List Int) (lay : Lay) (H : Hp) : Prop where
  doc : DocH K c H s.1 lay
  wf : WF s.1
  z : lay 0 0 = lay0 0 0
  t : H T = some (.lst (s.2.map V.int))
  tf : ¬ Foot s.1 lay T
  l : H D = some (.lst xs)
  lf : ¬ Foot s.1 lay D
  ne : D ≠ T
  segs : Paired (SegAt H s.1 lay T) xs css
section
variable {P : Program} {w : World} {K : PySem.W.Frag} {mg : Str → Option Value} {base : Heap} {c : CAd} {e : Nat → Addr}
def spTop (K : PySem.W.Frag) : Sp := fun vs H Q _ => ∃ (a : Addr) (css : List (List Nat)), vs = [.ref a] ∧ SqL K H a (natV css.flatten) ∧ (∀ ns ∈ css, (∃ cl, callOf ns = some cl) ∧ ∀ n ∈ ns, n < 2 ^ 32) ∧ css.length ≤ 40 ∧ (css.foldl runN (Ie02.init, [])).2.length ≤ 10000000 ∧
  ∀ H' p, H' p = some (.lst ((css.foldl runN (Ie02.init, [])).2.map V.int)) → Q (.ref p) H'
abbrev s_answers : Stmt := topS 87
abbrev N_answers : List Str := ["calls", "document", "told", "call", "numbers"]
abbrev P_answers : List Str := ["calls"]
theorem sc_answers : FnScope N_answers P_answers (defScope s_answers) := ⟨rfl, rfl, rfl, by decide +kernel, rfl, by decide +kernel, by decide +kernel⟩
theorem d_answers {aC : Addr} (T : TS K mg c e aC) (C_Document : ClsAt P w K mg base 39 "Document" c.D P_Document_init (spDInit K c)) (G_split_calls : DefAt P w K mg base CX0 38 "split_calls" P_split_calls (spSplit K)) (G_answer_call : DefAt P w K mg base CX0 62 "answer_call" P_answer_call (spAnsw K c))
    {fa : Addr} {fd : FuncData} (F : Fun K "answers" "answers" s_answers fa fd) : FnOk P w K mg base CX0 63 fa fd P_answers (spTop K) := by
  refine F.ok (k := 62) sc_answers (fun vs H Q E h => ?_) (fun cdv A outer s H vs Q E hr h => ?_)
  · obtain ⟨_, _, rfl, _⟩ := h; rfl
  obtain ⟨a, css, rfl, ha, ok, len, tot, q⟩ := h
  have nd := sc_answers.nd
  refine ⟨_, (pss_cons (ps_set (i := 1) nd rfl (Or.inl rfl) (pmkA0 C_Document (hr.mono (by omega)) pass0)) (pss_cons (ps_set (i := 2) nd rfl (Or.inl rfl) (pe_lst pa_nil)) (pss_cons (ps_for PassesOwn.never rfl (pi_list (pc G_split_calls (hr.mono (by omega)) pass0 (pa_cons (pv 0) pa_nil))) (pg_name (i := 3) nd rfl (Or.inl rfl)) (pss_cons (ps_set (i := 4) nd rfl (Or.inl rfl) (pc G_answer_call (hr.mono (by omega)) pass0 (pa_cons (pv 1) (pa_cons (pv 3) pa_nil)))) (pss_cons (ps_expr (pe_bm PySem.F.plainAttrs_list PySem.F.slot_list_append PySem.F.type_list_append mt_append (pv 2) (pa_cons (pe_callB call_len_seq (by rfl) T.n_len (by decide +kernel) (pa_cons (pv 4) pa_nil)) pa_nil))) (pss_one (ps_expr (pe_bm PySem.F.plainAttrs_list PySem.F.slot_list_extend PySem.F.type_list_extend mt_extend (pv 2) (pa_cons (pv 4) pa_nil))))))) (pss_one (ps_ret (pv 2)))))), ?_⟩
  refine fun x dx hx hdx ne => ?_
  have sa : Same H (upd (upd H dx (.own x)) x (.ins c.D dx [])) := (Same.new hdx).trans (Same.new (by rw [upd_ne ne.symm]; exact hx))
  refine ⟨x, dx, rfl, upd_same, fun lay H1 h00 b ft D => ⟨rfl, ?_⟩⟩
  subst h00
  have s1 : Same H H1 := fun y u h => b y u (fun z => by rw [z, hx] at h; cases h) (sa _ _ h)
  refine ⟨(by show 0 ≤ sizeLine; decide), fun tl htl => ?_⟩
  have s2 : Same H1 (upd H1 tl (.lst [])) := Same.new htl
  have ht2 : upd H1 tl (.lst []) tl = some (.lst []) := upd_same
  have tf : ¬ Foot Ie02.init lay tl := fun f => by
    obtain ⟨u, h⟩ := foot_some D.s f
    rw [htl] at h
    cases h
  have D2 := D.mono s2
  generalize upd H1 tl (.lst []) = H2 at s2 ht2 D2
  refine ⟨_, rfl, a, css, rfl, Same.seq (s1.trans s2) ha, fun ns h => (ok ns h).1, len, fun L H3 xs s3 nL hL hsg => ?_⟩
  refine ⟨L, rfl, ⟨_, .of hL⟩, ?_⟩
  have fresh : ∀ {y : Addr}, H2 y = none → ¬ Foot Ie02.init lay y ∧ y ≠ tl := fun {y} hy => by
    refine ⟨fun f => ?_, fun z => ?_⟩
    · obtain ⟨u, h⟩ := foot_some D2.s f
      rw [hy] at h
      cases h
    · rw [z, ht2] at hy
      cases hy
  have st : LoopAt K c lay tl L xs css (Ie02.init, []) lay H3 := ⟨D2.mono s3, wf_init, rfl, s3 _ _ ht2, tf, hL, (fresh nL).1, (fresh nL).2, L2.Paired.mapP hsg fun _ _ ⟨y, e1, e0, e2⟩ => ⟨y, e1, (fresh e0).2, (fresh e0).1, e2⟩⟩
  refine for_list (K := K) (a := L) (xs := xs) (fun i σ H' => ∃ lay' z3 z4, LoopAt K c lay tl L xs css ((css.take i).foldl runN (Ie02.init, [])) lay' H' ∧ σ = [some (.ref a), some (.ref (lay 0 0)), some (.ref tl), z3, z4]) ⟨lay, none, none, st, rfl⟩ (fun i σ H' _ ⟨_, _, _, h, _⟩ => .of h.l) ?_ ?_
  · rintro i v σ H' hv ⟨lay', z3, z4, X, rfl⟩
    obtain ⟨ns, hns, y, rfl, yt, yf, hy⟩ := Paired.at X.segs hv
    obtain ⟨⟨cl, hc⟩, lim⟩ := ok ns (List.mem_of_getElem? hns)
    have tot2 : (runN ((css.take i).foldl runN (Ie02.init, [])) ns).2.length ≤ 10000000 := by
      have e1 : css.foldl runN (Ie02.init, []) = (css.drop (i + 1)).foldl runN (runN ((css.take i).foldl runN (Ie02.init, [])) ns) := by
        conv => lhs; rw [← List.take_append_drop (i + 1) css, take_more hns, List.foldl_append, List.foldl_append]
        rfl
      have := runN_len (css.drop (i + 1)) (runN ((css.take i).foldl runN (Ie02.init, [])) ns)
      rw [← e1] at this
      exact Nat.le_trans this tot
    rw [take_more hns, List.foldl_append]
    show gName 3 _ _ _ _
    have e2 : ∀ s : Doc × List Int, [ns].foldl runN s = runN s ns := fun _ => rfl
    rw [e2]
    generalize (css.take i).foldl runN (Ie02.init, []) = sd at X tot2
    obtain ⟨d, told⟩ := sd
    have er : runN (d, told) ns = ((Ie02.step d cl).1, told ++ (((Ie02.step d cl).2.length : Int) :: (Ie02.step d cl).2)) := by
      unfold runN
      rw [hc]
    rw [er] at tot2 ⊢
    rw [List.length_append, List.length_cons] at tot2
    have W2 := step_wf X.wf cl
    refine ⟨_, rfl, _, rfl, d, lay', y, ns, cl, by rw [X.z], .of hy, hc, X.doc, X.wf, lim, fun N H4 lay2 D4 t4 z2 nN hN nfN => ?_⟩
    generalize Ie02.step d cl = rr at W2 D4 t4 hN nfN tot2
    obtain ⟨d2, nums⟩ := rr
    have h10 : (10000000 : Nat) < sizeLine := by decide
    have nT : N ≠ tl := fun z => by rw [z, X.t] at nN; cases nN
    have hT4 := t4.keep _ _ X.t X.tf
    have hT5 : upd H4 tl (.lst (told.map V.int ++ [.int (nums.length : Int)])) tl = some (.lst (told.map V.int ++ [.int (nums.length : Int)])) := upd_same
    have hN5 : upd H4 tl (.lst (told.map V.int ++ [.int (nums.length : Int)])) N = some (.lst (nums.map V.int)) := by rw [upd_ne nT]; exact hN
    have tf4 : ¬ Foot d2 lay2 tl := t4.nf X.t X.tf
    have D5 : DocH K c (upd H4 tl (.lst (told.map V.int ++ [.int (nums.length : Int)]))) d2 lay2 := D4.away tf4 hT4
    refine ⟨_, rfl, .inl ⟨rfl, _, .of hT4⟩, _, rfl, N, _, rfl, .inl (.of hN), tl, _, _, rfl, rfl, hT4, (by rw [List.length_map]; dsimp only at tot2 ⊢; omega), ?_⟩
    rw [List.length_map]
    refine ⟨_, rfl, .inl ⟨rfl, _, .of hT5⟩, _, rfl, tl, N, _, _, rfl, rfl, hT5, hN5, by rw [List.length_append, List.length_map, List.length_map, List.length_singleton]; dsimp only at tot2; omega, ?_⟩
    have off : ∀ {b : Addr} {u : HO}, b ≠ tl → H' b = some u → ¬ Foot d lay' b → upd (upd H4 tl (.lst (told.map V.int ++ [.int (nums.length : Int)]))) tl (.lst (told.map V.int ++ [.int (nums.length : Int)] ++ nums.map V.int)) b = some u := fun nb h f => by
      rw [upd_ne nb, upd_ne nb]
      exact t4.keep _ _ h f
    refine ⟨lay2, _, _, ⟨D5.away tf4 hT5, W2, z2.trans X.z, ?_, tf4, off X.ne X.l X.lf, t4.nf X.l X.lf, X.ne, L2.Paired.mapP X.segs fun _ _ ⟨b, e1, nb, fb, hb⟩ => ⟨b, e1, nb, t4.nf hb fb, off nb hb fb⟩⟩, rfl⟩
    rw [upd_same]
    dsimp only
    rw [List.map_append, List.map_cons, List.append_assoc]
    rfl
  · rintro σ H' ⟨lay', z3, z4, X, rfl⟩
    have e0 : xs.length = css.length := X.segs.length
    rw [e0, List.take_length] at X
    exact ⟨_, rfl, q H' tl X.t⟩
end
end LH

set_option Elab.async false
set_option linter.all false
set_option maxRecDepth 100000
set_option maxHeartbeats 2000000
namespace LH
open PySem PySem.Spec PyProof.Rows L2
open PySem.W (WData Codec OpenSpec Well WellAll ReadsW)
/-! the end, with what great quotients need: no audit hook, no _pylong -/
/-- what of the heap lies behind the arguments -/
theorem behind {K : PySem.W.Frag} {g : Heap} {N : List Addr} (ar : ∀ a ∈ N, ArgOb g N a) {b : Addr} {o : Obj} (e : g.get? b = some o) (n : o.cls ≠ .type "list" ∧ o.cls ≠ .type "tuple") : argH K g N b = none := by
  cases q : argH K g N b with
  | none => rfl
  | some u =>
    obtain ⟨_, _, _, _, ⟨z, _⟩ | ⟨z, _⟩⟩ := argH_is ar q
    · rw [z] at e
      exact (n.1 (by rw [← Option.some.inj e])).elim
    · rw [z] at e
      exact (n.2 (by rw [← Option.some.inj e])).elim
theorem behindD {K : PySem.W.Frag} {g : Heap} {N : List Addr} (ar : ∀ a ∈ N, ArgOb g N a) {b : Addr} {o : Obj} {es : Array DictEntry} {ep : Nat} (e : g.get? b = some o) (d : o.data = .dict es ep) : argH K g N b = none := by
  cases q : argH K g N b with
  | none => rfl
  | some u =>
    obtain ⟨_, _, _, _, ⟨z, _⟩ | ⟨z, _⟩⟩ := argH_is ar q <;>
    · rw [z] at e
      rw [← Option.some.inj e] at d
      cases d
theorem run_end {P : Program} {w : World} {K : PySem.W.Frag} {mg mb : Str → Option Value} {k : Nat} {fa : Addr} {fd : FuncData} {ps : List Str} {sp : Sp} {t : Shared} {us : List Value} {ds : List WData} {R : PySem.W.WRecords} {cl : Str → Option Addr} {out : WData}
    (inK : K.In t.heap) (gm : t.heap.Ns mainGlobals mg) (gb : t.heap.Ns builtinsNs mb) (gbb : ∀ x : Str, x ≠ "__name__" → mb x = bootBuiltins x) (lim : t.heap.NoLimit) (seer : t.heap.NoSeer) (gens : t.gens = #[])
    (well : WellAll w.params t.heap us ds) (pl : plWs ds = true) (light : ∀ d ∈ ds, d.weight ≤ 1048576) (room : Room k callerA)
    (F : ∀ base : Heap, K.In base → base.NoSeer → base.Ns mainGlobals mg → FnOk P w K mg base CX0 k fa fd ps sp) (bind : ∀ (s : Shared) (us : List Value), us.length = ps.length → BindsTo s fd ⟨us, []⟩ (ps.zip us)) (len : ds.length = ps.length)
    (asks : ∀ (H : Hp) (xs : List V), DwAll K H xs ds → sp xs H (fun v H' => Dw K H' v out) E0) :
    codeAny (model P w) callerA (.call (.ref fa) ⟨us, []⟩) (fun r t' => ∃ u as, r = .ok (.ret u) ∧ ReadsW R cl t'.heap u out as ∧ OldK t.heap t'.heap ∧ t'.os = t.os ∧ AllBare t'.gens) t := by
  obtain ⟨N, own, ar⟩ := area_all ds us well pl light
  have given := dw_all inK ar ds us well pl own
  have rel := vals_toV own
  have only : OnlyF (argH K t.heap N) := argH_only ar
  have sound : HOk P w (argH K t.heap N) t.heap := argH_ok ar
  have see : ∀ {b : Addr} {o : Obj}, t.heap.get? b = some o → argH K t.heap N b = none → (hidT t.heap (argH K t.heap N)).get? b = some o := fun e n => hidT_get e n
  have ns : ∀ {b : Addr} {m : Str → Option Value}, t.heap.Ns b m → (hidT t.heap (argH K t.heap N)).Ns b m := fun ⟨o, es, ep, e, d, r⟩ => ⟨o, es, ep, see e (behindD ar e d), d, r⟩
  have inB : K.In (hidT t.heap (argH K t.heap N)) := fun b o e => see (inK b o e) (by
    cases q : argH K t.heap N b with
    | none => rfl
    | some u =>
      have := (argH_is ar q).1
      rw [e] at this
      cases this)
  have seerB : (hidT t.heap (argH K t.heap N)).NoSeer := by
    obtain ⟨⟨m1, a1, b1⟩, ⟨m2, a2, b2⟩, ⟨m3, a3, b3⟩, ⟨m4, bm, ob, a4, b4, c4, d4, e4⟩⟩ := seer
    exact ⟨⟨m1, ns a1, b1⟩, ⟨m2, ns a2, b2⟩, ⟨m3, ns a3, b3⟩, ⟨m4, bm, ob, ns a4, b4, see c4 (behind ar c4 (by rw [d4]; exact ⟨by simp, by simp⟩)), d4, e4⟩⟩
  have mod : Mod K mg (hidT t.heap (argH K t.heap N)) := by
    obtain ⟨mc, l1, l2⟩ := lim
    exact ⟨inB, ns gm, ⟨mb, ns gb, gbb⟩, ⟨mc, ns l1, l2⟩⟩
  have env : Env0 P w K mg (hidT t.heap (argH K t.heap N)) callerA [] t (argH K t.heap N) := by
    refine ⟨rfl, mod, fun b o e => of_hidT e, Nat.le_of_eq (hidT_size _ _), trivial, fun b m => ?_, sound, .of_eq gens⟩
    cases m
  have size : us.length = ps.length := (wellAll_len well).trans len
  have call := (F _ inB seerB (ns gm)).run callerA [] t _ ⟨us, []⟩ us _ _ E0 room env (bind t us size) rel (asks _ _ given)
  refine codeAny_mono call fun r t' x => ?_
  match r, x with
  | .error _, x => exact False.elim x
  | .ok .next, x => exact False.elim x
  | .ok .brk, x => exact False.elim x
  | .ok .cont, x => exact False.elim x
  | .ok (.ret u), ⟨v, H', os, bare, un, sound', rv, dw⟩ =>
    have stay : ∀ b o, t.heap.get? b = some o → t'.heap.get? b = some o := fun b o e => by
      rcases only b with z | ⟨ob, y, z⟩
      · exact un.keep b o e z (fun m => by cases m) (by simp)
      · have e1 := (sound b _ z).1
        have e2 := (sound' b _ (un.frzs b ob _ z)).1
        rw [e] at e1
        rw [e2, ← e1]
    obtain ⟨as, rd⟩ := Dw.reads (R := R) (cl := cl) sound' (fun b o e => stay b o (inK b o e)) out v u dw rv
    exact ⟨u, as, rfl, rd, OldK.of_keep stay, os, bare⟩
theorem walk_end {r : OpenSpec} {k : Nat} {q : Program} {loose : List Str} {XP : (Str → Option Value) → Heap → Prop} {YP : World → Heap → Prop} {d : DefRec} {K : Params → PySem.W.Frag} {ps : List Str} {sp : PySem.W.Frag → Sp}
    (said : r.wellSaid = true) (nodef : d.params.defaults = []) (len : r.args.length = ps.length) (room : Room k callerA) (imports : importsNone q = true)
    (inY : ∀ (w : World) (h : Heap), YP w h → (K w.params).In h)
    (F : ∀ (w : World) (mg : Str → Option Value) (fa : Addr) (h : Heap), YP w h → (K w.params).In h → h.Ns mainGlobals mg → mg d.name = some (.ref fa) →
      ∃ fd : FuncData, (∀ (s : Shared) (us : List Value), us.length = ps.length → BindsTo s fd ⟨us, []⟩ (ps.zip us)) ∧
        ∀ base : Heap, (K w.params).In base → base.NoSeer → base.Ns mainGlobals mg → FnOk r.prog w (K w.params) mg base CX0 k fa fd ps (sp (K w.params)))
    (asks : ∀ (K : PySem.W.Frag) (H : Hp) (xs : List V) (a : Codec.denoteAll r.args), Codec.withinAll r.args a = true → Codec.app r.args r.asked a = true → DwAll K H xs (Codec.encAll r.args a) →
      sp K xs H (fun v H' => Dw K H' v (r.ret.enc (Codec.app r.args r.f a))) E0) :
    PySem.W.WalkOS q loose XP YP r d [] (fun f vs => PySem.call f vs) := by
  intro w s₀ t mg mb G Y fa o pm cd doc dV kV ho hd hcd hD hmg gens args us as pre lay rd well old
  obtain ⟨a, e1, e2⟩ := PySem.W.os_pre_some pre
  obtain ⟨e3, within⟩ := Codec.encAll_of_decAll r.args args a e1
  subst e3
  have inK := inY w _ Y
  obtain ⟨fd, bind, hF⟩ := F w mg fa _ Y inK G.T.g hmg
  have main := run_end (R := []) (cl := classAt s₀.heap) (out := r.ret.enc (Codec.app r.args r.f a)) inK G.T.g G.T.b G.T.builtins G.T.nolimit (G.T.seer imports) gens well (pl_encAll _ _) (layable_weight lay) room hF bind ((encAll_len _ _).trans len) fun H xs g => asks _ H xs a within e2 g
  refine PySem.W.enter_call (codeAny_mono main fun r' t' ⟨u, as', z, h1, h2, h3, h4⟩ => ?_)
  subst z
  exact ⟨.inl ⟨u, _, as', rfl, fun _ => rfl, h1, (OpenSpec.post_iff said within _ _).mpr rfl, fun z => by cases z⟩, h2, h3, h4⟩
end LH

set_option Elab.async false
set_option linter.all false
set_option maxRecDepth 100000
set_option maxHeartbeats 4000000
namespace LH
open PySem PySem.Spec PyProof.Rows L2
open Ie02 (Frac Px Colour Doc Layer)
open LM
theorem DefAt.callee {P : Program} {w : World} {K : PySem.W.Frag} {mg : Str → Option Value} {base : Heap} {k j : Nat} {x : Str} {ps : List Str} {sp : Sp} {f : Addr} (G : DefAt P w K mg base CX0 k x ps sp) (h : k ≤ j) (hm : mg x = some (.ref f)) : Callee P w K mg base j (.ref f) ps sp := by
  obtain ⟨g, gd, F, e, kp, b⟩ := (G.mono h).ex
  rw [hm] at e
  cases e
  exact ⟨_, gd, rfl, F, kp, b⟩
section
variable {P : Program} {w : World} {K : PySem.W.Frag} {mg : Str → Option Value} {base : Heap} {c : CAd} {e : Nat → Addr}
theorem chain (hs : base.NoSeer) (ht : P.given.tree = none) {aC aM CL : Addr} {fm : Nat → Addr} (T : TS K mg c e aC)
    (X5 : ∀ i j, 1 ≤ i → i ≤ 5 → 1 ≤ j → j ≤ 5 → PySem.W.exmOne K (.ref (e i)) (.ref (e j)) = some (decide (i = j)))
    (mM : mg "MODES" = some (.ref aM)) (lM : ∀ H, SqT K H aM ((List.range 12).map fun i => V.ref (fm i)))
    (m_normal : mg "normal" = some (.ref (fm 0)))
    (m_multiply : mg "multiply" = some (.ref (fm 1)))
    (m_screen : mg "screen" = some (.ref (fm 2)))
    (m_overlay : mg "overlay" = some (.ref (fm 3)))
    (m_hard_light : mg "hard_light" = some (.ref (fm 4)))
    (m_darken : mg "darken" = some (.ref (fm 5)))
    (m_lighten : mg "lighten" = some (.ref (fm 6)))
    (m_difference : mg "difference" = some (.ref (fm 7)))
    (m_add : mg "add" = some (.ref (fm 8)))
    (m_subtract : mg "subtract" = some (.ref (fm 9)))
    (m_colour_dodge : mg "colour_dodge" = some (.ref (fm 10)))
    (m_colour_burn : mg "colour_burn" = some (.ref (fm 11)))
    (F_empty_pixel : TopFn K mg "empty_pixel" "empty_pixel" s_empty_pixel P_empty_pixel)
    (F_greatest_divisor : TopFn K mg "greatest_divisor" "greatest_divisor" s_greatest_divisor P_greatest_divisor)
    (F_ratio : TopFn K mg "ratio" "ratio" s_ratio P_ratio)
    (F_plus : TopFn K mg "plus" "plus" s_plus P_plus)
    (F_minus : TopFn K mg "minus" "minus" s_minus P_minus)
    (F_times : TopFn K mg "times" "times" s_times P_times)
    (F_complement : TopFn K mg "complement" "complement" s_complement P_complement)
    (F_is_at_most : TopFn K mg "is_at_most" "is_at_most" s_is_at_most P_is_at_most)
    (F_is_at_most_half : TopFn K mg "is_at_most_half" "is_at_most_half" s_is_at_most_half P_is_at_most_half)
    (F_mean : TopFn K mg "mean" "mean" s_mean P_mean)
    (F_of_byte : TopFn K mg "of_byte" "of_byte" s_of_byte P_of_byte)
    (F_as_byte : TopFn K mg "as_byte" "as_byte" s_as_byte P_as_byte)
    (F_normal : TopFn K mg "normal" "normal" s_normal P_normal)
    (F_multiply : TopFn K mg "multiply" "multiply" s_multiply P_multiply)
    (F_screen : TopFn K mg "screen" "screen" s_screen P_screen)
    (F_overlay : TopFn K mg "overlay" "overlay" s_overlay P_overlay)
    (F_hard_light : TopFn K mg "hard_light" "hard_light" s_hard_light P_hard_light)
    (F_darken : TopFn K mg "darken" "darken" s_darken P_darken)
    (F_lighten : TopFn K mg "lighten" "lighten" s_lighten P_lighten)
    (F_difference : TopFn K mg "difference" "difference" s_difference P_difference)
    (F_add : TopFn K mg "add" "add" s_add P_add)
    (F_subtract : TopFn K mg "subtract" "subtract" s_subtract P_subtract)
    (F_colour_dodge : TopFn K mg "colour_dodge" "colour_dodge" s_colour_dodge P_colour_dodge)
    (F_colour_burn : TopFn K mg "colour_burn" "colour_burn" s_colour_burn P_colour_burn)
    (F_blend : TopFn K mg "blend" "blend" s_blend P_blend)
    (F_nothing : TopFn K mg "nothing" "nothing" s_nothing P_nothing)
    (F_pixel_of_bytes : TopFn K mg "pixel_of_bytes" "pixel_of_bytes" s_pixel_of_bytes P_pixel_of_bytes)
    (F_bytes_of_pixel : TopFn K mg "bytes_of_pixel" "bytes_of_pixel" s_bytes_of_pixel P_bytes_of_pixel)
    (F_over : TopFn K mg "over" "over" s_over P_over)
    (F_atop : TopFn K mg "atop" "atop" s_atop P_atop)
    (F_mix : TopFn K mg "mix" "mix" s_mix P_mix)
    (F_nearer_to_its_end : TopFn K mg "nearer_to_its_end" "nearer_to_its_end" s_nearer_to_its_end P_nearer_to_its_end)
    (F_adjusted : TopFn K mg "adjusted" "adjusted" s_adjusted P_adjusted)
    (F_weight_at : TopFn K mg "weight_at" "weight_at" s_weight_at P_weight_at)
    (F_is_pass_through : TopFn K mg "is_pass_through" "is_pass_through" s_is_pass_through P_is_pass_through)
    (F_can_be_base : TopFn K mg "can_be_base" "can_be_base" s_can_be_base P_can_be_base)
    (F_with_clipped : TopFn K mg "with_clipped" "with_clipped" s_with_clipped P_with_clipped)
    (F_own_pixel : TopFn K mg "own_pixel" "own_pixel" s_own_pixel P_own_pixel)
    (F_with_layer : TopFn K mg "with_layer" "with_layer" s_with_layer P_with_layer)
    (F_composite : TopFn K mg "composite" "composite" s_composite P_composite)
    (F_image_pixel : TopFn K mg "image_pixel" "image_pixel" s_image_pixel P_image_pixel)
    (F_check_side : TopFn K mg "check_side" "check_side" s_check_side P_check_side)
    (F_check_setting : TopFn K mg "check_setting" "check_setting" s_check_setting P_check_setting)
    (F_check_room : TopFn K mg "check_room" "check_room" s_check_room P_check_room)
    (F_new_canvas : TopFn K mg "new_canvas" "new_canvas" s_new_canvas P_new_canvas)
    (F_add_layer : TopFn K mg "add_layer" "add_layer" s_add_layer P_add_layer)
    (F_add_group : TopFn K mg "add_group" "add_group" s_add_group P_add_group)
    (F_add_adjustment : TopFn K mg "add_adjustment" "add_adjustment" s_add_adjustment P_add_adjustment)
    (F_paint : TopFn K mg "paint" "paint" s_paint P_paint)
    (F_set_mask : TopFn K mg "set_mask" "set_mask" s_set_mask P_set_mask)
    (F_set_layer : TopFn K mg "set_layer" "set_layer" s_set_layer P_set_layer)
    (F_move : TopFn K mg "move" "move" s_move P_move)
    (F_remove : TopFn K mg "remove" "remove" s_remove P_remove)
    (F_render : TopFn K mg "render" "render" s_render P_render)
    (F_pixel : TopFn K mg "pixel" "pixel" s_pixel P_pixel)
    (F_render_layer : TopFn K mg "render_layer" "render_layer" s_render_layer P_render_layer)
    (F_list_layers : TopFn K mg "list_layers" "list_layers" s_list_layers P_list_layers)
    (F_split_calls : TopFn K mg "split_calls" "split_calls" s_split_calls P_split_calls)
    (F_run_call : TopFn K mg "run_call" "run_call" s_run_call P_run_call)
    (F_answer_call : TopFn K mg "answer_call" "answer_call" s_answer_call P_answer_call)
    (F_D_find_layer : TopMet K c.D "find_layer" "Document.find_layer" s_Document_find_layer P_Document_find_layer)
    (F_D_members_of : TopMet K c.D "members_of" "Document.members_of" s_Document_members_of P_Document_members_of)
    (F_D_level_in : TopMet K c.D "level_in" "Document.level_in" s_Document_level_in P_Document_level_in)
    (F_D_with_inner : TopMet K c.D "with_inner" "Document.with_inner" s_Document_with_inner P_Document_with_inner)
    (F_D_levels_of : TopMet K c.D "levels_of" "Document.levels_of" s_Document_levels_of P_Document_levels_of)
    (F_D_size : TopMet K c.D "size" "Document.size" s_Document_size P_Document_size)
    (F_D_box : TopMet K c.D "box" "Document.box" s_Document_box P_Document_box)
    (F_D_begin : TopMet K c.D "begin" "Document.begin" s_Document_begin P_Document_begin)
    (F_D_put_highest : TopMet K c.D "put_highest" "Document.put_highest" s_Document_put_highest P_Document_put_highest)
    (F_D_put_into : TopMet K c.D "put_into" "Document.put_into" s_Document_put_into P_Document_put_into)
    (F_D_take_out : TopMet K c.D "take_out" "Document.take_out" s_Document_take_out P_Document_take_out)
    (F_C_RasterLayer : TopInit K mg "RasterLayer" "RasterLayer.__init__" s_RasterLayer_init c.R P_RasterLayer_init)
    (F_C_Group : TopInit K mg "Group" "Group.__init__" s_Group_init c.G P_Group_init)
    (F_C_AdjustmentLayer : TopInit K mg "AdjustmentLayer" "AdjustmentLayer.__init__" s_AdjustmentLayer_init c.A P_AdjustmentLayer_init)
    (F_C_Document : TopInit K mg "Document" "Document.__init__" s_Document_init c.D P_Document_init)
    (F_I_Layer : TopVia K mg "Layer" "__init__" "Layer.__init__" s_Layer_init CL P_Layer_init)
    {fa : Addr} {fd : FuncData} (F : Fun K "answers" "answers" s_answers fa fd) : FnOk P w K mg base CX0 63 fa fd P_answers (spTop K) := by
  have TBf := T.toTB
  have G_greatest_divisor := d_greatest_divisor (P := P) (w := w) (base := base)  (F := F_greatest_divisor)
  have G_ratio := d_ratio (P := P) (w := w) (base := base) (hs := hs) (ht := ht) (G_greatest_divisor := G_greatest_divisor) (F := F_ratio)
  have G_times := d_times (P := P) (w := w) (base := base) (G_ratio := G_ratio) (F := F_times)
  have G_plus := d_plus (P := P) (w := w) (base := base) (G_ratio := G_ratio) (F := F_plus)
  have G_minus := d_minus (P := P) (w := w) (base := base) (G_ratio := G_ratio) (F := F_minus)
  have G_complement := d_complement (P := P) (w := w) (base := base)  (F := F_complement)
  have G_is_at_most := d_is_at_most (P := P) (w := w) (base := base)  (F := F_is_at_most)
  have G_is_at_most_half := d_is_at_most_half (P := P) (w := w) (base := base)  (F := F_is_at_most_half)
  have G_mean := d_mean (P := P) (w := w) (base := base) (hs := hs) (ht := ht) (T := TBf) (G_greatest_divisor := G_greatest_divisor) (G_ratio := G_ratio) (F := F_mean)
  have G_mean_L := d_meanL (P := P) (w := w) (base := base) (hs := hs) (ht := ht) (T := TBf) (G_greatest_divisor := G_greatest_divisor) (G_ratio := G_ratio) (F := F_mean)
  have G_of_byte := d_of_byte (P := P) (w := w) (base := base) (G_ratio := G_ratio) (F := F_of_byte)
  have G_as_byte := d_as_byte (P := P) (w := w) (base := base) (hs := hs) (ht := ht) (F := F_as_byte)
  have G_normal := d_normal (P := P) (w := w) (base := base)  (F := F_normal)
  have G_multiply := d_multiply (P := P) (w := w) (base := base) (G_times := G_times) (F := F_multiply)
  have G_screen := d_screen (P := P) (w := w) (base := base) (G_times := G_times) (G_complement := G_complement) (F := F_screen)
  have G_hard_light := d_hard_light (P := P) (w := w) (base := base) (G_times := G_times) (G_complement := G_complement) (G_is_at_most_half := G_is_at_most_half) (F := F_hard_light)
  have G_overlay := d_overlay (P := P) (w := w) (base := base) (G_hard_light := G_hard_light) (F := F_overlay)
  have G_darken := d_darken' (P := P) (w := w) (base := base) (G_is_at_most := G_is_at_most) (F := F_darken)
  have G_lighten := d_lighten' (P := P) (w := w) (base := base) (G_is_at_most := G_is_at_most) (F := F_lighten)
  have G_difference := d_difference (P := P) (w := w) (base := base) (G_minus := G_minus) (G_darken := G_darken) (G_lighten := G_lighten) (F := F_difference)
  have G_add := d_add (P := P) (w := w) (base := base) (G_plus := G_plus) (G_darken := G_darken) (F := F_add)
  have G_subtract := d_subtract (P := P) (w := w) (base := base) (G_minus := G_minus) (G_is_at_most := G_is_at_most) (F := F_subtract)
  have G_colour_dodge := d_colour_dodge (P := P) (w := w) (base := base) (G_complement := G_complement) (G_is_at_most := G_is_at_most) (G_ratio := G_ratio) (F := F_colour_dodge)
  have G_colour_burn := d_colour_burn (P := P) (w := w) (base := base) (G_complement := G_complement) (G_is_at_most := G_is_at_most) (G_ratio := G_ratio) (F := F_colour_burn)
  have G_nothing := d_nothing (P := P) (w := w) (base := base)  (F := F_nothing)
  have MO : Modes P w K mg base aM ((List.range 12).map fun i => V.ref (fm i)) := by
    refine ⟨mM, lM, fun m hm => ?_⟩
    rcases (show m = 0 ∨ m = 1 ∨ m = 2 ∨ m = 3 ∨ m = 4 ∨ m = 5 ∨ m = 6 ∨ m = 7 ∨ m = 8 ∨ m = 9 ∨ m = 10 ∨ m = 11 by omega) with rfl | rfl | rfl | rfl | rfl | rfl | rfl | rfl | rfl | rfl | rfl | rfl
    · exact ⟨_, _, rfl, DefAt.callee G_normal (by decide) m_normal⟩
    · exact ⟨_, _, rfl, DefAt.callee G_multiply (by decide) m_multiply⟩
    · exact ⟨_, _, rfl, DefAt.callee G_screen (by decide) m_screen⟩
    · exact ⟨_, _, rfl, DefAt.callee G_overlay (by decide) m_overlay⟩
    · exact ⟨_, _, rfl, DefAt.callee G_hard_light (by decide) m_hard_light⟩
    · exact ⟨_, _, rfl, DefAt.callee (G_darken.imp (sp' := spBl K 5) fun vs H Q E h => bl_most (f := Frac.min) h) (by decide) m_darken⟩
    · exact ⟨_, _, rfl, DefAt.callee (G_lighten.imp (sp' := spBl K 6) fun vs H Q E h => bl_most (f := Frac.max) h) (by decide) m_lighten⟩
    · exact ⟨_, _, rfl, DefAt.callee G_difference (by decide) m_difference⟩
    · exact ⟨_, _, rfl, DefAt.callee G_add (by decide) m_add⟩
    · exact ⟨_, _, rfl, DefAt.callee G_subtract (by decide) m_subtract⟩
    · exact ⟨_, _, rfl, DefAt.callee G_colour_dodge (by decide) m_colour_dodge⟩
    · exact ⟨_, _, rfl, DefAt.callee G_colour_burn (by decide) m_colour_burn⟩
  have G_blend := d_blend (P := P) (w := w) (base := base) (T := MO) (F := F_blend)
  have G_over := d_over (P := P) (w := w) (base := base) (G_times := G_times) (G_ratio := G_ratio) (G_mean := G_mean) (G_blend := G_blend) (G_nothing := G_nothing) (T := TBf) (F := F_over)
  have G_atop := d_atop (P := P) (w := w) (base := base) (G_times := G_times) (G_mean := G_mean) (G_blend := G_blend) (G_nothing := G_nothing) (T := TBf) (F := F_atop)
  have G_mix := d_mix (P := P) (w := w) (base := base) (G_times := G_times) (G_complement := G_complement) (G_ratio := G_ratio) (G_mean := G_mean) (G_nothing := G_nothing) (T := TBf) (F := F_mix)
  have G_pixel_of_bytes := d_pixel_of_bytes (P := P) (w := w) (base := base) (G_of_byte := G_of_byte) (T := TBf) (F := F_pixel_of_bytes)
  have G_bytes_of_pixel := d_bytes_of_pixel (P := P) (w := w) (base := base) (G_as_byte := G_as_byte) (T := TBf) (F := F_bytes_of_pixel)
  have G_nearer_to_its_end := d_nearer_to_its_end (P := P) (w := w) (base := base) (G_times := G_times) (G_complement := G_complement) (G_is_at_most_half := G_is_at_most_half) (F := F_nearer_to_its_end)
  have G_adjusted := d_adjusted (P := P) (w := w) (base := base) (T := TBf) (G_complement := G_complement) (G_mean := G_mean_L) (G_nearer_to_its_end := G_nearer_to_its_end) (F := F_adjusted)
  have M_find_layer := d_find_layer (P := P) (w := w) (base := base) (T := T.toTC) (F := F_D_find_layer)
  have M_members_of := d_members_of (P := P) (w := w) (base := base) (T := T.toTC) (M_find_layer := M_find_layer) (F := F_D_members_of)
  have M_level_in := d_level_in (P := P) (w := w) (base := base) (T := T.toTC) (F := F_D_level_in)
  have M_with_inner := d_with_inner (P := P) (w := w) (base := base) (T := T.toTC) (F := F_D_with_inner)
  have M_levels_of := d_levels_of (P := P) (w := w) (base := base) (T := T.toTC) (M_level_in := M_level_in) (M_with_inner := M_with_inner) (F := F_D_levels_of)
  have M_size := d_size (P := P) (w := w) (base := base) (T := T.toTC) (F := F_D_size)
  have M_box := d_box (P := P) (w := w) (base := base) (T := T.toTC) (F := F_D_box)
  have G_weight_at := d_weight_at (P := P) (w := w) (base := base) (T := T.toTC) (G_ratio := G_ratio) (F := F_weight_at)
  have G_is_pass_through := d_is_pass_through (P := P) (w := w) (base := base) (T := T.toTC) (F := F_is_pass_through)
  have G_can_be_base := d_can_be_base (P := P) (w := w) (base := base) (T := T.toTC) (G_is_pass_through := G_is_pass_through) (F := F_can_be_base)
  have G_with_clipped := d_with_clipped (P := P) (w := w) (base := base) (T := T.toTC) (G_can_be_base := G_can_be_base) (F := F_with_clipped)
  have G_composite0 := d_composite0 (P := P) (w := w) (base := base) (K := K) (c := c) F_composite
  have G_own_pixel0 := d_own_pixel (kc := 43) (T := T.toTC) 0 (by decide) G_composite0 G_pixel_of_bytes G_nothing F_own_pixel
  have G_with_layer0 := d_with_layer (kc := 43) (T := T.toTC) 0 (by decide) G_composite0 G_own_pixel0 G_weight_at G_is_pass_through G_over G_atop G_mix G_adjusted F_with_layer
  have G_composite1 := d_composite1 (kc := 43) (T := T.toTC) 0 (by decide) G_with_layer0 G_with_clipped F_composite
  have G_own_pixel1 := d_own_pixel (kc := 46) (T := T.toTC) 1 (by decide) G_composite1 G_pixel_of_bytes G_nothing F_own_pixel
  have G_with_layer1 := d_with_layer (kc := 46) (T := T.toTC) 1 (by decide) G_composite1 G_own_pixel1 G_weight_at G_is_pass_through G_over G_atop G_mix G_adjusted F_with_layer
  have G_composite2 := d_composite1 (kc := 46) (T := T.toTC) 1 (by decide) G_with_layer1 G_with_clipped F_composite
  have G_own_pixel2 := d_own_pixel (kc := 49) (T := T.toTC) 2 (by decide) G_composite2 G_pixel_of_bytes G_nothing F_own_pixel
  have G_with_layer2 := d_with_layer (kc := 49) (T := T.toTC) 2 (by decide) G_composite2 G_own_pixel2 G_weight_at G_is_pass_through G_over G_atop G_mix G_adjusted F_with_layer
  have G_composite3 := d_composite1 (kc := 49) (T := T.toTC) 2 (by decide) G_with_layer2 G_with_clipped F_composite
  have G_own_pixel3 := d_own_pixel (kc := 52) (T := T.toTC) 3 (by decide) G_composite3 G_pixel_of_bytes G_nothing F_own_pixel
  have G_with_layer3 := d_with_layer (kc := 52) (T := T.toTC) 3 (by decide) G_composite3 G_own_pixel3 G_weight_at G_is_pass_through G_over G_atop G_mix G_adjusted F_with_layer
  have G_composite4 := d_composite1 (kc := 52) (T := T.toTC) 3 (by decide) G_with_layer3 G_with_clipped F_composite
  have G_own_pixel4 := d_own_pixel (kc := 55) (T := T.toTC) 4 (by decide) G_composite4 G_pixel_of_bytes G_nothing F_own_pixel
  have G_with_layer4 := d_with_layer (kc := 55) (T := T.toTC) 4 (by decide) G_composite4 G_own_pixel4 G_weight_at G_is_pass_through G_over G_atop G_mix G_adjusted F_with_layer
  have G_composite5 := d_composite1 (kc := 55) (T := T.toTC) 4 (by decide) G_with_layer4 G_with_clipped F_composite
  have G_image_pixel := d_image_pixel (P := P) (w := w) (base := base) (T := T.toTC) (G_composite := G_composite5) (G_nothing := G_nothing) (F := F_image_pixel)
  have I_Layer := d_Layer_init (P := P) (w := w) (base := base) (T := T.toTC) (F := F_I_Layer)
  have G_empty_pixel := d_empty_pixel (P := P) (w := w) (base := base)  (F := F_empty_pixel)
  have C_RasterLayer := d_RasterLayer_init (P := P) (w := w) (base := base) (T := T.toTC) (I_Layer := I_Layer) (G_empty_pixel := G_empty_pixel) (F := F_C_RasterLayer)
  have C_Group := fun z => d_Group_init (P := P) (w := w) (base := base) (T := T.toTC) (I_Layer := I_Layer) (F := F_C_Group) (t := z)
  have C_AdjustmentLayer := fun z => d_AdjustmentLayer_init (P := P) (w := w) (base := base) (T := T.toTC) (I_Layer := I_Layer) (F := F_C_AdjustmentLayer) (how := z)
  have M_begin := d_begin (P := P) (w := w) (base := base) (T := T.toTC) (F := F_D_begin)
  have C_Document := d_Document_init (P := P) (w := w) (base := base) (T := T.toTC) (M_begin := M_begin) (F := F_C_Document)
  have M_put_highest := d_put_highest (P := P) (w := w) (base := base) (T := T.toTC) (M_members_of := M_members_of) (F := F_D_put_highest)
  have M_put_into := d_put_into (P := P) (w := w) (base := base) (T := T.toTC) (M_members_of := M_members_of) (F := F_D_put_into)
  have M_take_out := d_take_out (P := P) (w := w) (base := base) (T := T.toTC) (M_members_of := M_members_of) (M_with_inner := M_with_inner) (F := F_D_take_out)
  have G_check_side := d_check_side (P := P) (w := w) (base := base) (T := T.toTO) (F := F_check_side)
  have G_check_setting := d_check_setting (P := P) (w := w) (base := base) (T := T.toTO) (F := F_check_setting)
  have G_check_room := d_check_room (P := P) (w := w) (base := base) (T := T.toTO) (M_members_of := M_members_of) (M_level_in := M_level_in) (F := F_check_room)
  have G_new_canvas := d_new_canvas (P := P) (w := w) (base := base) (T := T.toTO) (G_check_side := G_check_side) (M_begin := M_begin) (F := F_new_canvas)
  have G_add_layer := d_add_layer (P := P) (w := w) (base := base) (T := T.toTO) (G_check_room := G_check_room) (M_put_highest := M_put_highest) (M_size := M_size) (C_RasterLayer := C_RasterLayer) (F := F_add_layer)
  have G_add_group := d_add_group (P := P) (w := w) (base := base) (T := T.toTO) (G_check_setting := G_check_setting) (G_check_room := G_check_room) (M_put_highest := M_put_highest) (M_size := M_size) (C_Group := C_Group) (F := F_add_group)
  have G_add_adjustment := d_add_adjustment (P := P) (w := w) (base := base) (T := T.toTO) (G_check_setting := G_check_setting) (G_check_room := G_check_room) (M_put_highest := M_put_highest) (M_size := M_size) (C_AdjustmentLayer := C_AdjustmentLayer) (F := F_add_adjustment)
  have G_paint := d_paint (P := P) (w := w) (base := base) (T := T.toTO) (M_find_layer := M_find_layer) (G_check_setting := G_check_setting) (M_box := M_box) (G_empty_pixel := G_empty_pixel) (F := F_paint)
  have G_set_mask := d_set_mask (P := P) (w := w) (base := base) (T := T.toTO) (M_find_layer := M_find_layer) (G_check_setting := G_check_setting) (M_box := M_box) (F := F_set_mask)
  have G_set_layer := d_set_layer (P := P) (w := w) (base := base) (T := T.toTO) (M_find_layer := M_find_layer) (G_check_setting := G_check_setting) (F := F_set_layer)
  have G_move := d_move (P := P) (w := w) (base := base) (T := T.toTO) (M_find_layer := M_find_layer) (M_members_of := M_members_of) (M_with_inner := M_with_inner) (M_level_in := M_level_in) (M_levels_of := M_levels_of) (M_put_into := M_put_into) (F := F_move)
  have G_remove := d_remove (P := P) (w := w) (base := base) (T := T.toTO) (M_find_layer := M_find_layer) (M_take_out := M_take_out) (F := F_remove)
  have G_render := d_render (P := P) (w := w) (base := base) (T := T.toTO) (M_size := M_size) (G_image_pixel := G_image_pixel) (G_bytes_of_pixel := G_bytes_of_pixel) (F := F_render)
  have G_pixel := d_pixel (P := P) (w := w) (base := base) (T := T.toTO) (G_image_pixel := G_image_pixel) (F := F_pixel)
  have G_render_layer := d_render_layer (P := P) (w := w) (base := base) (T := T.toTO) (M_find_layer := M_find_layer) (M_size := M_size) (G_own_pixel := G_own_pixel4) (G_bytes_of_pixel := G_bytes_of_pixel) (F := F_render_layer)
  have G_list_layers := d_list_layers (P := P) (w := w) (base := base) (T := T.toTO) (M_members_of := M_members_of) (F := F_list_layers)
  have G_run_call := d_run_call (P := P) (w := w) (base := base) (G_new_canvas := G_new_canvas) (G_add_layer := G_add_layer) (G_add_group := G_add_group) (G_add_adjustment := G_add_adjustment) (G_paint := G_paint) (G_set_mask := G_set_mask) (G_set_layer := G_set_layer) (G_move := G_move) (G_remove := G_remove) (G_render := G_render) (G_pixel := G_pixel) (G_render_layer := G_render_layer) (G_list_layers := G_list_layers) (F := F_run_call)
  have G_answer_call := d_answer_call (P := P) (w := w) (base := base) (T := T.toTO) (X5 := X5) (G_run_call := G_run_call) (F := F_answer_call)
  have G_split_calls := d_split_calls (P := P) (w := w) (base := base) (T := T) (F := F_split_calls)
  exact d_answers T C_Document G_split_calls G_answer_call F
end
end LH

set_option Elab.async false
set_option linter.all false
set_option maxRecDepth 100000
set_option maxHeartbeats 8000000
namespace LH
open PySem PySem.Spec PyProof.Rows L2
theorem kit_self {K : PySem.W.Frag} {a : Addr} : PySem.W.kitOne K (.ref a) (.ref a) = some true := by
  unfold PySem.W.kitOne
  rw [if_pos (by simp)]
theorem kit_by {K : PySem.W.Frag} {a b : Addr} {v : Bool} (ne : (Value.ref a == Value.ref b) = false) (i : PySem.W.isClsIn K b = true) (t : PySem.W.typeIn K (.ref b) = some (.type "type")) (s : PySem.W.subIn K (.ref a) (.ref b) = some v) : PySem.W.kitOne K (.ref a) (.ref b) = some v := by
  unfold PySem.W.kitOne
  rw [if_neg (by rw [ne]; decide)]
  show (if ((PySem.W.clsIn K b).isSome && PySem.W.typeIn K (.ref b) == some (.type "type")) = true then _ else _) = _
  have i2 : (PySem.W.clsIn K b).isSome = true := i
  rw [i2, t, if_pos (by rfl)]
  exact s
theorem exm_by {K : PySem.W.Frag} {a b : Addr} {v : Bool} (z : PySem.W.subIn K (.ref b) (.type "BaseException") = some true) (i : PySem.W.isClsIn K b = true) (t : PySem.W.typeIn K (.ref b) = some (.type "type")) (s : PySem.W.subIn K (.ref a) (.ref b) = some v) : PySem.W.exmOne K (.ref a) (.ref b) = some v := by
  unfold PySem.W.exmOne
  rw [z, if_pos (by rfl)]
  show (if ((PySem.W.clsIn K b).isSome && PySem.W.typeIn K (.ref b) == some (.type "type")) = true then _ else _) = _
  have i2 : (PySem.W.clsIn K b).isSome = true := i
  rw [i2, t, if_pos (by rfl)]
  exact s
def errs (a b c d e : Addr) : Nat → Addr
  | 1 => a
  | 2 => b
  | 3 => c
  | 4 => d
  | _ => e
theorem all_mk {P : Program} {w : World} {K : PySem.W.Frag} {h : Heap} {mg : Str → Option Value} {fa : Addr} (X : K.In h) (G : h.Ns mainGlobals mg) (hfa : mg "answers" = some (.ref fa)) (ht : P.given.tree = none)
    {aD aL aR aG aA aM aC : Addr}
    {aE1 aE2 aE3 aE4 aE5 : Addr}
    {f0 f1 f2 f3 f4 f5 f6 f7 f8 f9 f10 f11 f12 f13 f14 f15 f16 f17 f18 f19 f20 f21 f22 f23 f24 f25 f26 f27 f28 f29 f30 f31 f32 f33 f34 f35 f36 f37 f38 f39 f40 f41 f42 f43 f44 f45 f46 f47 f48 f49 f50 f51 f52 f53 f54 f55 f56 f57 f58 f59 f60 f61 f62 f63 f64 f65 f66 f67 f68 f69 f70 f71 f72 f73 f74 f75 f76 : Addr}
    {od0 an0 od1 an1 od2 an2 od3 an3 od4 an4 od5 an5 od6 an6 od7 an7 od8 an8 od9 an9 od10 an10 od11 an11 od12 an12 od13 an13 od14 an14 od15 an15 od16 an16 od17 an17 od18 an18 od19 an19 od20 an20 od21 an21 od22 an22 od23 an23 od24 an24 od25 an25 od26 an26 od27 an27 od28 an28 od29 an29 od30 an30 od31 an31 od32 an32 od33 an33 od34 an34 od35 an35 od36 an36 od37 an37 od38 an38 od39 an39 od40 an40 od41 an41 od42 an42 od43 an43 od44 an44 od45 an45 od46 an46 od47 an47 od48 an48 od49 an49 od50 an50 od51 an51 od52 an52 od53 an53 od54 an54 od55 an55 od56 an56 od57 an57 od58 an58 od59 an59 od60 an60 od61 an61 od62 an62 od63 an63 od64 an64 od65 an65 od66 an66 od67 an67 od68 an68 od69 an69 od70 an70 od71 an71 od72 an72 od73 an73 od74 an74 od75 an75 od76 an76 odM odC : Option Addr}
    {sl0 sl1 sl2 sl3 sl4 sl5 sl6 sl7 sl8 sl9 sl10 sl11 sl12 sl13 sl14 sl15 sl16 sl17 sl18 sl19 sl20 sl21 sl22 sl23 sl24 sl25 sl26 sl27 sl28 sl29 sl30 sl31 sl32 sl33 sl34 sl35 sl36 sl37 sl38 sl39 sl40 sl41 sl42 sl43 sl44 sl45 sl46 sl47 sl48 sl49 sl50 sl51 sl52 sl53 sl54 sl55 sl56 sl57 sl58 sl59 sl60 sl61 sl62 sl63 sl64 sl65 sl66 sl67 sl68 sl69 sl70 sl71 sl72 sl73 sl74 sl75 sl76 slM slC : Array (Option Value)}
    {oc0 kV0 dc0 pm0 cd0 ct0 oc1 kV1 dc1 pm1 cd1 ct1 oc2 kV2 dc2 pm2 cd2 ct2 oc3 kV3 dc3 pm3 cd3 ct3 oc4 kV4 dc4 pm4 cd4 ct4 oc5 kV5 dc5 pm5 cd5 ct5 oc6 kV6 dc6 pm6 cd6 ct6 oc7 kV7 dc7 pm7 cd7 ct7 oc8 kV8 dc8 pm8 cd8 ct8 oc9 kV9 dc9 pm9 cd9 ct9 oc10 kV10 dc10 pm10 cd10 ct10 oc11 kV11 dc11 pm11 cd11 ct11 oc12 kV12 dc12 pm12 cd12 ct12 oc13 kV13 dc13 pm13 cd13 ct13 oc14 kV14 dc14 pm14 cd14 ct14 oc15 kV15 dc15 pm15 cd15 ct15 oc16 kV16 dc16 pm16 cd16 ct16 oc17 kV17 dc17 pm17 cd17 ct17 oc18 kV18 dc18 pm18 cd18 ct18 oc19 kV19 dc19 pm19 cd19 ct19 oc20 kV20 dc20 pm20 cd20 ct20 oc21 kV21 dc21 pm21 cd21 ct21 oc22 kV22 dc22 pm22 cd22 ct22 oc23 kV23 dc23 pm23 cd23 ct23 oc24 kV24 dc24 pm24 cd24 ct24 oc25 kV25 dc25 pm25 cd25 ct25 oc26 kV26 dc26 pm26 cd26 ct26 oc27 kV27 dc27 pm27 cd27 ct27 oc28 kV28 dc28 pm28 cd28 ct28 oc29 kV29 dc29 pm29 cd29 ct29 oc30 kV30 dc30 pm30 cd30 ct30 oc31 kV31 dc31 pm31 cd31 ct31 oc32 kV32 dc32 pm32 cd32 ct32 oc33 kV33 dc33 pm33 cd33 ct33 oc34 kV34 dc34 pm34 cd34 ct34 oc35 kV35 dc35 pm35 cd35 ct35 oc36 kV36 dc36 pm36 cd36 ct36 oc37 kV37 dc37 pm37 cd37 ct37 oc38 kV38 dc38 pm38 cd38 ct38 oc39 kV39 dc39 pm39 cd39 ct39 oc40 kV40 dc40 pm40 cd40 ct40 oc41 kV41 dc41 pm41 cd41 ct41 oc42 kV42 dc42 pm42 cd42 ct42 oc43 kV43 dc43 pm43 cd43 ct43 oc44 kV44 dc44 pm44 cd44 ct44 oc45 kV45 dc45 pm45 cd45 ct45 oc46 kV46 dc46 pm46 cd46 ct46 oc47 kV47 dc47 pm47 cd47 ct47 oc48 kV48 dc48 pm48 cd48 ct48 oc49 kV49 dc49 pm49 cd49 ct49 oc50 kV50 dc50 pm50 cd50 ct50 oc51 kV51 dc51 pm51 cd51 ct51 oc52 kV52 dc52 pm52 cd52 ct52 oc53 kV53 dc53 pm53 cd53 ct53 oc54 kV54 dc54 pm54 cd54 ct54 oc55 kV55 dc55 pm55 cd55 ct55 oc56 kV56 dc56 pm56 cd56 ct56 oc57 kV57 dc57 pm57 cd57 ct57 oc58 kV58 dc58 pm58 cd58 ct58 oc59 kV59 dc59 pm59 cd59 ct59 oc60 kV60 dc60 pm60 cd60 ct60 oc61 kV61 dc61 pm61 cd61 ct61 oc62 kV62 dc62 pm62 cd62 ct62 oc63 kV63 dc63 pm63 cd63 ct63 oc64 kV64 dc64 pm64 cd64 ct64 oc65 kV65 dc65 pm65 cd65 ct65 oc66 kV66 dc66 pm66 cd66 ct66 oc67 kV67 dc67 pm67 cd67 ct67 oc68 kV68 dc68 pm68 cd68 ct68 oc69 kV69 dc69 pm69 cd69 ct69 oc70 kV70 dc70 pm70 cd70 ct70 oc71 kV71 dc71 pm71 cd71 ct71 oc72 kV72 dc72 pm72 cd72 ct72 oc73 kV73 dc73 pm73 cd73 ct73 oc74 kV74 dc74 pm74 cd74 ct74 oc75 kV75 dc75 pm75 cd75 ct75 oc76 kV76 dc76 pm76 cd76 ct76 : Value}
    {t_LARGEST_SIDE t_MOST_LAYERS t_HIGHEST_LEVEL t_HIGHEST_BYTE t_HIGHEST_MODE t_HIGHEST_KIND u0 u1 u2 u3 u4 u5 u6 u7 u8 u9 u10 u11 u12 : Tok}
    {nM nC : Nat}
    (n_Document : PySem.W.nsIn K mainGlobals "Document" = some (some (.ref aD)))
    (n_Layer : PySem.W.nsIn K mainGlobals "Layer" = some (some (.ref aL)))
    (n_RasterLayer : PySem.W.nsIn K mainGlobals "RasterLayer" = some (some (.ref aR)))
    (n_Group : PySem.W.nsIn K mainGlobals "Group" = some (some (.ref aG)))
    (n_AdjustmentLayer : PySem.W.nsIn K mainGlobals "AdjustmentLayer" = some (some (.ref aA)))
    (n_OutOfRange : PySem.W.nsIn K mainGlobals "OutOfRange" = some (some (.ref aE1)))
    (n_NoSuchLayer : PySem.W.nsIn K mainGlobals "NoSuchLayer" = some (some (.ref aE2)))
    (n_WrongSetting : PySem.W.nsIn K mainGlobals "WrongSetting" = some (some (.ref aE3)))
    (n_CannotClip : PySem.W.nsIn K mainGlobals "CannotClip" = some (some (.ref aE4)))
    (n_TooFewLayers : PySem.W.nsIn K mainGlobals "TooFewLayers" = some (some (.ref aE5)))
    (a0 : PySem.W.nsIn K mainGlobals "empty_pixel" = some (some (.ref f0)))
    (l0 : K.lookup f0 = some ⟨oc0, od0, .func (PySem.W.fnOf "empty_pixel" "empty_pixel" (defArgs s_empty_pixel) (defBody s_empty_pixel) (defScope s_empty_pixel) .none kV0 dc0 pm0 an0 cd0 ct0), sl0⟩)
    (c0 : PySem.W.codeIn K cd0 "empty_pixel" = true)
    (k0 : PySem.W.keepIn K (.ref f0) = true)
    (a1 : PySem.W.nsIn K mainGlobals "greatest_divisor" = some (some (.ref f1)))
    (l1 : K.lookup f1 = some ⟨oc1, od1, .func (PySem.W.fnOf "greatest_divisor" "greatest_divisor" (defArgs s_greatest_divisor) (defBody s_greatest_divisor) (defScope s_greatest_divisor) .none kV1 dc1 pm1 an1 cd1 ct1), sl1⟩)
    (c1 : PySem.W.codeIn K cd1 "greatest_divisor" = true)
    (k1 : PySem.W.keepIn K (.ref f1) = true)
    (a2 : PySem.W.nsIn K mainGlobals "ratio" = some (some (.ref f2)))
    (l2 : K.lookup f2 = some ⟨oc2, od2, .func (PySem.W.fnOf "ratio" "ratio" (defArgs s_ratio) (defBody s_ratio) (defScope s_ratio) .none kV2 dc2 pm2 an2 cd2 ct2), sl2⟩)
    (c2 : PySem.W.codeIn K cd2 "ratio" = true)
    (k2 : PySem.W.keepIn K (.ref f2) = true)
    (a3 : PySem.W.nsIn K mainGlobals "plus" = some (some (.ref f3)))
    (l3 : K.lookup f3 = some ⟨oc3, od3, .func (PySem.W.fnOf "plus" "plus" (defArgs s_plus) (defBody s_plus) (defScope s_plus) .none kV3 dc3 pm3 an3 cd3 ct3), sl3⟩)
    (c3 : PySem.W.codeIn K cd3 "plus" = true)
    (k3 : PySem.W.keepIn K (.ref f3) = true)
    (a4 : PySem.W.nsIn K mainGlobals "minus" = some (some (.ref f4)))
    (l4 : K.lookup f4 = some ⟨oc4, od4, .func (PySem.W.fnOf "minus" "minus" (defArgs s_minus) (defBody s_minus) (defScope s_minus) .none kV4 dc4 pm4 an4 cd4 ct4), sl4⟩)
    (c4 : PySem.W.codeIn K cd4 "minus" = true)
    (k4 : PySem.W.keepIn K (.ref f4) = true)
    (a5 : PySem.W.nsIn K mainGlobals "times" = some (some (.ref f5)))
    (l5 : K.lookup f5 = some ⟨oc5, od5, .func (PySem.W.fnOf "times" "times" (defArgs s_times) (defBody s_times) (defScope s_times) .none kV5 dc5 pm5 an5 cd5 ct5), sl5⟩)
    (c5 : PySem.W.codeIn K cd5 "times" = true)
    (k5 : PySem.W.keepIn K (.ref f5) = true)
    (a6 : PySem.W.nsIn K mainGlobals "complement" = some (some (.ref f6)))
    (l6 : K.lookup f6 = some ⟨oc6, od6, .func (PySem.W.fnOf "complement" "complement" (defArgs s_complement) (defBody s_complement) (defScope s_complement) .none kV6 dc6 pm6 an6 cd6 ct6), sl6⟩)
    (c6 : PySem.W.codeIn K cd6 "complement" = true)
    (k6 : PySem.W.keepIn K (.ref f6) = true)
    (a7 : PySem.W.nsIn K mainGlobals "is_at_most" = some (some (.ref f7)))
    (l7 : K.lookup f7 = some ⟨oc7, od7, .func (PySem.W.fnOf "is_at_most" "is_at_most" (defArgs s_is_at_most) (defBody s_is_at_most) (defScope s_is_at_most) .none kV7 dc7 pm7 an7 cd7 ct7), sl7⟩)
    (c7 : PySem.W.codeIn K cd7 "is_at_most" = true)
    (k7 : PySem.W.keepIn K (.ref f7) = true)
    (a8 : PySem.W.nsIn K mainGlobals "is_at_most_half" = some (some (.ref f8)))
    (l8 : K.lookup f8 = some ⟨oc8, od8, .func (PySem.W.fnOf "is_at_most_half" "is_at_most_half" (defArgs s_is_at_most_half) (defBody s_is_at_most_half) (defScope s_is_at_most_half) .none kV8 dc8 pm8 an8 cd8 ct8), sl8⟩)
    (c8 : PySem.W.codeIn K cd8 "is_at_most_half" = true)
    (k8 : PySem.W.keepIn K (.ref f8) = true)
    (a9 : PySem.W.nsIn K mainGlobals "mean" = some (some (.ref f9)))
    (l9 : K.lookup f9 = some ⟨oc9, od9, .func (PySem.W.fnOf "mean" "mean" (defArgs s_mean) (defBody s_mean) (defScope s_mean) .none kV9 dc9 pm9 an9 cd9 ct9), sl9⟩)
    (c9 : PySem.W.codeIn K cd9 "mean" = true)
    (k9 : PySem.W.keepIn K (.ref f9) = true)
    (a10 : PySem.W.nsIn K mainGlobals "of_byte" = some (some (.ref f10)))
    (l10 : K.lookup f10 = some ⟨oc10, od10, .func (PySem.W.fnOf "of_byte" "of_byte" (defArgs s_of_byte) (defBody s_of_byte) (defScope s_of_byte) .none kV10 dc10 pm10 an10 cd10 ct10), sl10⟩)
    (c10 : PySem.W.codeIn K cd10 "of_byte" = true)
    (k10 : PySem.W.keepIn K (.ref f10) = true)
    (a11 : PySem.W.nsIn K mainGlobals "as_byte" = some (some (.ref f11)))
    (l11 : K.lookup f11 = some ⟨oc11, od11, .func (PySem.W.fnOf "as_byte" "as_byte" (defArgs s_as_byte) (defBody s_as_byte) (defScope s_as_byte) .none kV11 dc11 pm11 an11 cd11 ct11), sl11⟩)
    (c11 : PySem.W.codeIn K cd11 "as_byte" = true)
    (k11 : PySem.W.keepIn K (.ref f11) = true)
    (a12 : PySem.W.nsIn K mainGlobals "normal" = some (some (.ref f12)))
    (l12 : K.lookup f12 = some ⟨oc12, od12, .func (PySem.W.fnOf "normal" "normal" (defArgs s_normal) (defBody s_normal) (defScope s_normal) .none kV12 dc12 pm12 an12 cd12 ct12), sl12⟩)
    (c12 : PySem.W.codeIn K cd12 "normal" = true)
    (k12 : PySem.W.keepIn K (.ref f12) = true)
    (a13 : PySem.W.nsIn K mainGlobals "multiply" = some (some (.ref f13)))
    (l13 : K.lookup f13 = some ⟨oc13, od13, .func (PySem.W.fnOf "multiply" "multiply" (defArgs s_multiply) (defBody s_multiply) (defScope s_multiply) .none kV13 dc13 pm13 an13 cd13 ct13), sl13⟩)
    (c13 : PySem.W.codeIn K cd13 "multiply" = true)
    (k13 : PySem.W.keepIn K (.ref f13) = true)
    (a14 : PySem.W.nsIn K mainGlobals "screen" = some (some (.ref f14)))
    (l14 : K.lookup f14 = some ⟨oc14, od14, .func (PySem.W.fnOf "screen" "screen" (defArgs s_screen) (defBody s_screen) (defScope s_screen) .none kV14 dc14 pm14 an14 cd14 ct14), sl14⟩)
    (c14 : PySem.W.codeIn K cd14 "screen" = true)
    (k14 : PySem.W.keepIn K (.ref f14) = true)
    (a15 : PySem.W.nsIn K mainGlobals "overlay" = some (some (.ref f15)))
    (l15 : K.lookup f15 = some ⟨oc15, od15, .func (PySem.W.fnOf "overlay" "overlay" (defArgs s_overlay) (defBody s_overlay) (defScope s_overlay) .none kV15 dc15 pm15 an15 cd15 ct15), sl15⟩)
    (c15 : PySem.W.codeIn K cd15 "overlay" = true)
    (k15 : PySem.W.keepIn K (.ref f15) = true)
    (a16 : PySem.W.nsIn K mainGlobals "hard_light" = some (some (.ref f16)))
    (l16 : K.lookup f16 = some ⟨oc16, od16, .func (PySem.W.fnOf "hard_light" "hard_light" (defArgs s_hard_light) (defBody s_hard_light) (defScope s_hard_light) .none kV16 dc16 pm16 an16 cd16 ct16), sl16⟩)
    (c16 : PySem.W.codeIn K cd16 "hard_light" = true)
    (k16 : PySem.W.keepIn K (.ref f16) = true)
    (a17 : PySem.W.nsIn K mainGlobals "darken" = some (some (.ref f17)))
    (l17 : K.lookup f17 = some ⟨oc17, od17, .func (PySem.W.fnOf "darken" "darken" (defArgs s_darken) (defBody s_darken) (defScope s_darken) .none kV17 dc17 pm17 an17 cd17 ct17), sl17⟩)
    (c17 : PySem.W.codeIn K cd17 "darken" = true)
    (k17 : PySem.W.keepIn K (.ref f17) = true)
    (a18 : PySem.W.nsIn K mainGlobals "lighten" = some (some (.ref f18)))
    (l18 : K.lookup f18 = some ⟨oc18, od18, .func (PySem.W.fnOf "lighten" "lighten" (defArgs s_lighten) (defBody s_lighten) (defScope s_lighten) .none kV18 dc18 pm18 an18 cd18 ct18), sl18⟩)
    (c18 : PySem.W.codeIn K cd18 "lighten" = true)
    (k18 : PySem.W.keepIn K (.ref f18) = true)
    (a19 : PySem.W.nsIn K mainGlobals "difference" = some (some (.ref f19)))
    (l19 : K.lookup f19 = some ⟨oc19, od19, .func (PySem.W.fnOf "difference" "difference" (defArgs s_difference) (defBody s_difference) (defScope s_difference) .none kV19 dc19 pm19 an19 cd19 ct19), sl19⟩)
    (c19 : PySem.W.codeIn K cd19 "difference" = true)
    (k19 : PySem.W.keepIn K (.ref f19) = true)
    (a20 : PySem.W.nsIn K mainGlobals "add" = some (some (.ref f20)))
    (l20 : K.lookup f20 = some ⟨oc20, od20, .func (PySem.W.fnOf "add" "add" (defArgs s_add) (defBody s_add) (defScope s_add) .none kV20 dc20 pm20 an20 cd20 ct20), sl20⟩)
    (c20 : PySem.W.codeIn K cd20 "add" = true)
    (k20 : PySem.W.keepIn K (.ref f20) = true)
    (a21 : PySem.W.nsIn K mainGlobals "subtract" = some (some (.ref f21)))
    (l21 : K.lookup f21 = some ⟨oc21, od21, .func (PySem.W.fnOf "subtract" "subtract" (defArgs s_subtract) (defBody s_subtract) (defScope s_subtract) .none kV21 dc21 pm21 an21 cd21 ct21), sl21⟩)
    (c21 : PySem.W.codeIn K cd21 "subtract" = true)
    (k21 : PySem.W.keepIn K (.ref f21) = true)
    (a22 : PySem.W.nsIn K mainGlobals "colour_dodge" = some (some (.ref f22)))
    (l22 : K.lookup f22 = some ⟨oc22, od22, .func (PySem.W.fnOf "colour_dodge" "colour_dodge" (defArgs s_colour_dodge) (defBody s_colour_dodge) (defScope s_colour_dodge) .none kV22 dc22 pm22 an22 cd22 ct22), sl22⟩)
    (c22 : PySem.W.codeIn K cd22 "colour_dodge" = true)
    (k22 : PySem.W.keepIn K (.ref f22) = true)
    (a23 : PySem.W.nsIn K mainGlobals "colour_burn" = some (some (.ref f23)))
    (l23 : K.lookup f23 = some ⟨oc23, od23, .func (PySem.W.fnOf "colour_burn" "colour_burn" (defArgs s_colour_burn) (defBody s_colour_burn) (defScope s_colour_burn) .none kV23 dc23 pm23 an23 cd23 ct23), sl23⟩)
    (c23 : PySem.W.codeIn K cd23 "colour_burn" = true)
    (k23 : PySem.W.keepIn K (.ref f23) = true)
    (a24 : PySem.W.nsIn K mainGlobals "blend" = some (some (.ref f24)))
    (l24 : K.lookup f24 = some ⟨oc24, od24, .func (PySem.W.fnOf "blend" "blend" (defArgs s_blend) (defBody s_blend) (defScope s_blend) .none kV24 dc24 pm24 an24 cd24 ct24), sl24⟩)
    (c24 : PySem.W.codeIn K cd24 "blend" = true)
    (k24 : PySem.W.keepIn K (.ref f24) = true)
    (a25 : PySem.W.nsIn K mainGlobals "nothing" = some (some (.ref f25)))
    (l25 : K.lookup f25 = some ⟨oc25, od25, .func (PySem.W.fnOf "nothing" "nothing" (defArgs s_nothing) (defBody s_nothing) (defScope s_nothing) .none kV25 dc25 pm25 an25 cd25 ct25), sl25⟩)
    (c25 : PySem.W.codeIn K cd25 "nothing" = true)
    (k25 : PySem.W.keepIn K (.ref f25) = true)
    (a26 : PySem.W.nsIn K mainGlobals "pixel_of_bytes" = some (some (.ref f26)))
    (l26 : K.lookup f26 = some ⟨oc26, od26, .func (PySem.W.fnOf "pixel_of_bytes" "pixel_of_bytes" (defArgs s_pixel_of_bytes) (defBody s_pixel_of_bytes) (defScope s_pixel_of_bytes) .none kV26 dc26 pm26 an26 cd26 ct26), sl26⟩)
    (c26 : PySem.W.codeIn K cd26 "pixel_of_bytes" = true)
    (k26 : PySem.W.keepIn K (.ref f26) = true)
    (a27 : PySem.W.nsIn K mainGlobals "bytes_of_pixel" = some (some (.ref f27)))
    (l27 : K.lookup f27 = some ⟨oc27, od27, .func (PySem.W.fnOf "bytes_of_pixel" "bytes_of_pixel" (defArgs s_bytes_of_pixel) (defBody s_bytes_of_pixel) (defScope s_bytes_of_pixel) .none kV27 dc27 pm27 an27 cd27 ct27), sl27⟩)
    (c27 : PySem.W.codeIn K cd27 "bytes_of_pixel" = true)
    (k27 : PySem.W.keepIn K (.ref f27) = true)
    (a28 : PySem.W.nsIn K mainGlobals "over" = some (some (.ref f28)))
    (l28 : K.lookup f28 = some ⟨oc28, od28, .func (PySem.W.fnOf "over" "over" (defArgs s_over) (defBody s_over) (defScope s_over) .none kV28 dc28 pm28 an28 cd28 ct28), sl28⟩)
    (c28 : PySem.W.codeIn K cd28 "over" = true)
    (k28 : PySem.W.keepIn K (.ref f28) = true)
    (a29 : PySem.W.nsIn K mainGlobals "atop" = some (some (.ref f29)))
    (l29 : K.lookup f29 = some ⟨oc29, od29, .func (PySem.W.fnOf "atop" "atop" (defArgs s_atop) (defBody s_atop) (defScope s_atop) .none kV29 dc29 pm29 an29 cd29 ct29), sl29⟩)
    (c29 : PySem.W.codeIn K cd29 "atop" = true)
    (k29 : PySem.W.keepIn K (.ref f29) = true)
    (a30 : PySem.W.nsIn K mainGlobals "mix" = some (some (.ref f30)))
    (l30 : K.lookup f30 = some ⟨oc30, od30, .func (PySem.W.fnOf "mix" "mix" (defArgs s_mix) (defBody s_mix) (defScope s_mix) .none kV30 dc30 pm30 an30 cd30 ct30), sl30⟩)
    (c30 : PySem.W.codeIn K cd30 "mix" = true)
    (k30 : PySem.W.keepIn K (.ref f30) = true)
    (a31 : PySem.W.nsIn K mainGlobals "nearer_to_its_end" = some (some (.ref f31)))
    (l31 : K.lookup f31 = some ⟨oc31, od31, .func (PySem.W.fnOf "nearer_to_its_end" "nearer_to_its_end" (defArgs s_nearer_to_its_end) (defBody s_nearer_to_its_end) (defScope s_nearer_to_its_end) .none kV31 dc31 pm31 an31 cd31 ct31), sl31⟩)
    (c31 : PySem.W.codeIn K cd31 "nearer_to_its_end" = true)
    (k31 : PySem.W.keepIn K (.ref f31) = true)
    (a32 : PySem.W.nsIn K mainGlobals "adjusted" = some (some (.ref f32)))
    (l32 : K.lookup f32 = some ⟨oc32, od32, .func (PySem.W.fnOf "adjusted" "adjusted" (defArgs s_adjusted) (defBody s_adjusted) (defScope s_adjusted) .none kV32 dc32 pm32 an32 cd32 ct32), sl32⟩)
    (c32 : PySem.W.codeIn K cd32 "adjusted" = true)
    (k32 : PySem.W.keepIn K (.ref f32) = true)
    (a33 : PySem.W.nsIn K mainGlobals "weight_at" = some (some (.ref f33)))
    (l33 : K.lookup f33 = some ⟨oc33, od33, .func (PySem.W.fnOf "weight_at" "weight_at" (defArgs s_weight_at) (defBody s_weight_at) (defScope s_weight_at) .none kV33 dc33 pm33 an33 cd33 ct33), sl33⟩)
    (c33 : PySem.W.codeIn K cd33 "weight_at" = true)
    (k33 : PySem.W.keepIn K (.ref f33) = true)
    (a34 : PySem.W.nsIn K mainGlobals "is_pass_through" = some (some (.ref f34)))
    (l34 : K.lookup f34 = some ⟨oc34, od34, .func (PySem.W.fnOf "is_pass_through" "is_pass_through" (defArgs s_is_pass_through) (defBody s_is_pass_through) (defScope s_is_pass_through) .none kV34 dc34 pm34 an34 cd34 ct34), sl34⟩)
    (c34 : PySem.W.codeIn K cd34 "is_pass_through" = true)
    (k34 : PySem.W.keepIn K (.ref f34) = true)
    (a35 : PySem.W.nsIn K mainGlobals "can_be_base" = some (some (.ref f35)))
    (l35 : K.lookup f35 = some ⟨oc35, od35, .func (PySem.W.fnOf "can_be_base" "can_be_base" (defArgs s_can_be_base) (defBody s_can_be_base) (defScope s_can_be_base) .none kV35 dc35 pm35 an35 cd35 ct35), sl35⟩)
    (c35 : PySem.W.codeIn K cd35 "can_be_base" = true)
    (k35 : PySem.W.keepIn K (.ref f35) = true)
    (a36 : PySem.W.nsIn K mainGlobals "with_clipped" = some (some (.ref f36)))
    (l36 : K.lookup f36 = some ⟨oc36, od36, .func (PySem.W.fnOf "with_clipped" "with_clipped" (defArgs s_with_clipped) (defBody s_with_clipped) (defScope s_with_clipped) .none kV36 dc36 pm36 an36 cd36 ct36), sl36⟩)
    (c36 : PySem.W.codeIn K cd36 "with_clipped" = true)
    (k36 : PySem.W.keepIn K (.ref f36) = true)
    (a37 : PySem.W.nsIn K mainGlobals "own_pixel" = some (some (.ref f37)))
    (l37 : K.lookup f37 = some ⟨oc37, od37, .func (PySem.W.fnOf "own_pixel" "own_pixel" (defArgs s_own_pixel) (defBody s_own_pixel) (defScope s_own_pixel) .none kV37 dc37 pm37 an37 cd37 ct37), sl37⟩)
    (c37 : PySem.W.codeIn K cd37 "own_pixel" = true)
    (k37 : PySem.W.keepIn K (.ref f37) = true)
    (a38 : PySem.W.nsIn K mainGlobals "with_layer" = some (some (.ref f38)))
    (l38 : K.lookup f38 = some ⟨oc38, od38, .func (PySem.W.fnOf "with_layer" "with_layer" (defArgs s_with_layer) (defBody s_with_layer) (defScope s_with_layer) .none kV38 dc38 pm38 an38 cd38 ct38), sl38⟩)
    (c38 : PySem.W.codeIn K cd38 "with_layer" = true)
    (k38 : PySem.W.keepIn K (.ref f38) = true)
    (a39 : PySem.W.nsIn K mainGlobals "composite" = some (some (.ref f39)))
    (l39 : K.lookup f39 = some ⟨oc39, od39, .func (PySem.W.fnOf "composite" "composite" (defArgs s_composite) (defBody s_composite) (defScope s_composite) .none kV39 dc39 pm39 an39 cd39 ct39), sl39⟩)
    (c39 : PySem.W.codeIn K cd39 "composite" = true)
    (k39 : PySem.W.keepIn K (.ref f39) = true)
    (a40 : PySem.W.nsIn K mainGlobals "image_pixel" = some (some (.ref f40)))
    (l40 : K.lookup f40 = some ⟨oc40, od40, .func (PySem.W.fnOf "image_pixel" "image_pixel" (defArgs s_image_pixel) (defBody s_image_pixel) (defScope s_image_pixel) .none kV40 dc40 pm40 an40 cd40 ct40), sl40⟩)
    (c40 : PySem.W.codeIn K cd40 "image_pixel" = true)
    (k40 : PySem.W.keepIn K (.ref f40) = true)
    (a41 : PySem.W.nsIn K mainGlobals "check_side" = some (some (.ref f41)))
    (l41 : K.lookup f41 = some ⟨oc41, od41, .func (PySem.W.fnOf "check_side" "check_side" (defArgs s_check_side) (defBody s_check_side) (defScope s_check_side) .none kV41 dc41 pm41 an41 cd41 ct41), sl41⟩)
    (c41 : PySem.W.codeIn K cd41 "check_side" = true)
    (k41 : PySem.W.keepIn K (.ref f41) = true)
    (a42 : PySem.W.nsIn K mainGlobals "check_setting" = some (some (.ref f42)))
    (l42 : K.lookup f42 = some ⟨oc42, od42, .func (PySem.W.fnOf "check_setting" "check_setting" (defArgs s_check_setting) (defBody s_check_setting) (defScope s_check_setting) .none kV42 dc42 pm42 an42 cd42 ct42), sl42⟩)
    (c42 : PySem.W.codeIn K cd42 "check_setting" = true)
    (k42 : PySem.W.keepIn K (.ref f42) = true)
    (a43 : PySem.W.nsIn K mainGlobals "check_room" = some (some (.ref f43)))
    (l43 : K.lookup f43 = some ⟨oc43, od43, .func (PySem.W.fnOf "check_room" "check_room" (defArgs s_check_room) (defBody s_check_room) (defScope s_check_room) .none kV43 dc43 pm43 an43 cd43 ct43), sl43⟩)
    (c43 : PySem.W.codeIn K cd43 "check_room" = true)
    (k43 : PySem.W.keepIn K (.ref f43) = true)
    (a44 : PySem.W.nsIn K mainGlobals "new_canvas" = some (some (.ref f44)))
    (l44 : K.lookup f44 = some ⟨oc44, od44, .func (PySem.W.fnOf "new_canvas" "new_canvas" (defArgs s_new_canvas) (defBody s_new_canvas) (defScope s_new_canvas) .none kV44 dc44 pm44 an44 cd44 ct44), sl44⟩)
    (c44 : PySem.W.codeIn K cd44 "new_canvas" = true)
    (k44 : PySem.W.keepIn K (.ref f44) = true)
    (a45 : PySem.W.nsIn K mainGlobals "add_layer" = some (some (.ref f45)))
    (l45 : K.lookup f45 = some ⟨oc45, od45, .func (PySem.W.fnOf "add_layer" "add_layer" (defArgs s_add_layer) (defBody s_add_layer) (defScope s_add_layer) .none kV45 dc45 pm45 an45 cd45 ct45), sl45⟩)
    (c45 : PySem.W.codeIn K cd45 "add_layer" = true)
    (k45 : PySem.W.keepIn K (.ref f45) = true)
    (a46 : PySem.W.nsIn K mainGlobals "add_group" = some (some (.ref f46)))
    (l46 : K.lookup f46 = some ⟨oc46, od46, .func (PySem.W.fnOf "add_group" "add_group" (defArgs s_add_group) (defBody s_add_group) (defScope s_add_group) .none kV46 dc46 pm46 an46 cd46 ct46), sl46⟩)
    (c46 : PySem.W.codeIn K cd46 "add_group" = true)
    (k46 : PySem.W.keepIn K (.ref f46) = true)
    (a47 : PySem.W.nsIn K mainGlobals "add_adjustment" = some (some (.ref f47)))
    (l47 : K.lookup f47 = some ⟨oc47, od47, .func (PySem.W.fnOf "add_adjustment" "add_adjustment" (defArgs s_add_adjustment) (defBody s_add_adjustment) (defScope s_add_adjustment) .none kV47 dc47 pm47 an47 cd47 ct47), sl47⟩)
    (c47 : PySem.W.codeIn K cd47 "add_adjustment" = true)
    (k47 : PySem.W.keepIn K (.ref f47) = true)
    (a48 : PySem.W.nsIn K mainGlobals "paint" = some (some (.ref f48)))
    (l48 : K.lookup f48 = some ⟨oc48, od48, .func (PySem.W.fnOf "paint" "paint" (defArgs s_paint) (defBody s_paint) (defScope s_paint) .none kV48 dc48 pm48 an48 cd48 ct48), sl48⟩)
    (c48 : PySem.W.codeIn K cd48 "paint" = true)
    (k48 : PySem.W.keepIn K (.ref f48) = true)
    (a49 : PySem.W.nsIn K mainGlobals "set_mask" = some (some (.ref f49)))
    (l49 : K.lookup f49 = some ⟨oc49, od49, .func (PySem.W.fnOf "set_mask" "set_mask" (defArgs s_set_mask) (defBody s_set_mask) (defScope s_set_mask) .none kV49 dc49 pm49 an49 cd49 ct49), sl49⟩)
    (c49 : PySem.W.codeIn K cd49 "set_mask" = true)
    (k49 : PySem.W.keepIn K (.ref f49) = true)
    (a50 : PySem.W.nsIn K mainGlobals "set_layer" = some (some (.ref f50)))
    (l50 : K.lookup f50 = some ⟨oc50, od50, .func (PySem.W.fnOf "set_layer" "set_layer" (defArgs s_set_layer) (defBody s_set_layer) (defScope s_set_layer) .none kV50 dc50 pm50 an50 cd50 ct50), sl50⟩)
    (c50 : PySem.W.codeIn K cd50 "set_layer" = true)
    (k50 : PySem.W.keepIn K (.ref f50) = true)
    (a51 : PySem.W.nsIn K mainGlobals "move" = some (some (.ref f51)))
    (l51 : K.lookup f51 = some ⟨oc51, od51, .func (PySem.W.fnOf "move" "move" (defArgs s_move) (defBody s_move) (defScope s_move) .none kV51 dc51 pm51 an51 cd51 ct51), sl51⟩)
    (c51 : PySem.W.codeIn K cd51 "move" = true)
    (k51 : PySem.W.keepIn K (.ref f51) = true)
    (a52 : PySem.W.nsIn K mainGlobals "remove" = some (some (.ref f52)))
    (l52 : K.lookup f52 = some ⟨oc52, od52, .func (PySem.W.fnOf "remove" "remove" (defArgs s_remove) (defBody s_remove) (defScope s_remove) .none kV52 dc52 pm52 an52 cd52 ct52), sl52⟩)
    (c52 : PySem.W.codeIn K cd52 "remove" = true)
    (k52 : PySem.W.keepIn K (.ref f52) = true)
    (a53 : PySem.W.nsIn K mainGlobals "render" = some (some (.ref f53)))
    (l53 : K.lookup f53 = some ⟨oc53, od53, .func (PySem.W.fnOf "render" "render" (defArgs s_render) (defBody s_render) (defScope s_render) .none kV53 dc53 pm53 an53 cd53 ct53), sl53⟩)
    (c53 : PySem.W.codeIn K cd53 "render" = true)
    (k53 : PySem.W.keepIn K (.ref f53) = true)
    (a54 : PySem.W.nsIn K mainGlobals "pixel" = some (some (.ref f54)))
    (l54 : K.lookup f54 = some ⟨oc54, od54, .func (PySem.W.fnOf "pixel" "pixel" (defArgs s_pixel) (defBody s_pixel) (defScope s_pixel) .none kV54 dc54 pm54 an54 cd54 ct54), sl54⟩)
    (c54 : PySem.W.codeIn K cd54 "pixel" = true)
    (k54 : PySem.W.keepIn K (.ref f54) = true)
    (a55 : PySem.W.nsIn K mainGlobals "render_layer" = some (some (.ref f55)))
    (l55 : K.lookup f55 = some ⟨oc55, od55, .func (PySem.W.fnOf "render_layer" "render_layer" (defArgs s_render_layer) (defBody s_render_layer) (defScope s_render_layer) .none kV55 dc55 pm55 an55 cd55 ct55), sl55⟩)
    (c55 : PySem.W.codeIn K cd55 "render_layer" = true)
    (k55 : PySem.W.keepIn K (.ref f55) = true)
    (a56 : PySem.W.nsIn K mainGlobals "list_layers" = some (some (.ref f56)))
    (l56 : K.lookup f56 = some ⟨oc56, od56, .func (PySem.W.fnOf "list_layers" "list_layers" (defArgs s_list_layers) (defBody s_list_layers) (defScope s_list_layers) .none kV56 dc56 pm56 an56 cd56 ct56), sl56⟩)
    (c56 : PySem.W.codeIn K cd56 "list_layers" = true)
    (k56 : PySem.W.keepIn K (.ref f56) = true)
    (a57 : PySem.W.nsIn K mainGlobals "split_calls" = some (some (.ref f57)))
    (l57 : K.lookup f57 = some ⟨oc57, od57, .func (PySem.W.fnOf "split_calls" "split_calls" (defArgs s_split_calls) (defBody s_split_calls) (defScope s_split_calls) .none kV57 dc57 pm57 an57 cd57 ct57), sl57⟩)
    (c57 : PySem.W.codeIn K cd57 "split_calls" = true)
    (k57 : PySem.W.keepIn K (.ref f57) = true)
    (a58 : PySem.W.nsIn K mainGlobals "run_call" = some (some (.ref f58)))
    (l58 : K.lookup f58 = some ⟨oc58, od58, .func (PySem.W.fnOf "run_call" "run_call" (defArgs s_run_call) (defBody s_run_call) (defScope s_run_call) .none kV58 dc58 pm58 an58 cd58 ct58), sl58⟩)
    (c58 : PySem.W.codeIn K cd58 "run_call" = true)
    (k58 : PySem.W.keepIn K (.ref f58) = true)
    (a59 : PySem.W.nsIn K mainGlobals "answer_call" = some (some (.ref f59)))
    (l59 : K.lookup f59 = some ⟨oc59, od59, .func (PySem.W.fnOf "answer_call" "answer_call" (defArgs s_answer_call) (defBody s_answer_call) (defScope s_answer_call) .none kV59 dc59 pm59 an59 cd59 ct59), sl59⟩)
    (c59 : PySem.W.codeIn K cd59 "answer_call" = true)
    (k59 : PySem.W.keepIn K (.ref f59) = true)
    (a60 : PySem.W.nsIn K mainGlobals "answers" = some (some (.ref f60)))
    (l60 : K.lookup f60 = some ⟨oc60, od60, .func (PySem.W.fnOf "answers" "answers" (defArgs s_answers) (defBody s_answers) (defScope s_answers) .none kV60 dc60 pm60 an60 cd60 ct60), sl60⟩)
    (c60 : PySem.W.codeIn K cd60 "answers" = true)
    (k60 : PySem.W.keepIn K (.ref f60) = true)
    (a61 : PySem.W.findIn K (.ref aD) "find_layer" = some (some (.ref f61)))
    (i61 : PySem.W.isFn K (.ref f61) = true)
    (l61 : K.lookup f61 = some ⟨oc61, od61, .func (PySem.W.fnOf "find_layer" "Document.find_layer" (defArgs s_Document_find_layer) (defBody s_Document_find_layer) (defScope s_Document_find_layer) .none kV61 dc61 pm61 an61 cd61 ct61), sl61⟩)
    (c61 : PySem.W.codeIn K cd61 "Document.find_layer" = true)
    (k61 : PySem.W.keepIn K (.ref f61) = true)
    (a62 : PySem.W.findIn K (.ref aD) "members_of" = some (some (.ref f62)))
    (i62 : PySem.W.isFn K (.ref f62) = true)
    (l62 : K.lookup f62 = some ⟨oc62, od62, .func (PySem.W.fnOf "members_of" "Document.members_of" (defArgs s_Document_members_of) (defBody s_Document_members_of) (defScope s_Document_members_of) .none kV62 dc62 pm62 an62 cd62 ct62), sl62⟩)
    (c62 : PySem.W.codeIn K cd62 "Document.members_of" = true)
    (k62 : PySem.W.keepIn K (.ref f62) = true)
    (a63 : PySem.W.findIn K (.ref aD) "level_in" = some (some (.ref f63)))
    (i63 : PySem.W.isFn K (.ref f63) = true)
    (l63 : K.lookup f63 = some ⟨oc63, od63, .func (PySem.W.fnOf "level_in" "Document.level_in" (defArgs s_Document_level_in) (defBody s_Document_level_in) (defScope s_Document_level_in) .none kV63 dc63 pm63 an63 cd63 ct63), sl63⟩)
    (c63 : PySem.W.codeIn K cd63 "Document.level_in" = true)
    (k63 : PySem.W.keepIn K (.ref f63) = true)
    (a64 : PySem.W.findIn K (.ref aD) "with_inner" = some (some (.ref f64)))
    (i64 : PySem.W.isFn K (.ref f64) = true)
    (l64 : K.lookup f64 = some ⟨oc64, od64, .func (PySem.W.fnOf "with_inner" "Document.with_inner" (defArgs s_Document_with_inner) (defBody s_Document_with_inner) (defScope s_Document_with_inner) .none kV64 dc64 pm64 an64 cd64 ct64), sl64⟩)
    (c64 : PySem.W.codeIn K cd64 "Document.with_inner" = true)
    (k64 : PySem.W.keepIn K (.ref f64) = true)
    (a65 : PySem.W.findIn K (.ref aD) "levels_of" = some (some (.ref f65)))
    (i65 : PySem.W.isFn K (.ref f65) = true)
    (l65 : K.lookup f65 = some ⟨oc65, od65, .func (PySem.W.fnOf "levels_of" "Document.levels_of" (defArgs s_Document_levels_of) (defBody s_Document_levels_of) (defScope s_Document_levels_of) .none kV65 dc65 pm65 an65 cd65 ct65), sl65⟩)
    (c65 : PySem.W.codeIn K cd65 "Document.levels_of" = true)
    (k65 : PySem.W.keepIn K (.ref f65) = true)
    (a66 : PySem.W.findIn K (.ref aD) "size" = some (some (.ref f66)))
    (i66 : PySem.W.isFn K (.ref f66) = true)
    (l66 : K.lookup f66 = some ⟨oc66, od66, .func (PySem.W.fnOf "size" "Document.size" (defArgs s_Document_size) (defBody s_Document_size) (defScope s_Document_size) .none kV66 dc66 pm66 an66 cd66 ct66), sl66⟩)
    (c66 : PySem.W.codeIn K cd66 "Document.size" = true)
    (k66 : PySem.W.keepIn K (.ref f66) = true)
    (a67 : PySem.W.findIn K (.ref aD) "box" = some (some (.ref f67)))
    (i67 : PySem.W.isFn K (.ref f67) = true)
    (l67 : K.lookup f67 = some ⟨oc67, od67, .func (PySem.W.fnOf "box" "Document.box" (defArgs s_Document_box) (defBody s_Document_box) (defScope s_Document_box) .none kV67 dc67 pm67 an67 cd67 ct67), sl67⟩)
    (c67 : PySem.W.codeIn K cd67 "Document.box" = true)
    (k67 : PySem.W.keepIn K (.ref f67) = true)
    (a68 : PySem.W.findIn K (.ref aD) "begin" = some (some (.ref f68)))
    (i68 : PySem.W.isFn K (.ref f68) = true)
    (l68 : K.lookup f68 = some ⟨oc68, od68, .func (PySem.W.fnOf "begin" "Document.begin" (defArgs s_Document_begin) (defBody s_Document_begin) (defScope s_Document_begin) .none kV68 dc68 pm68 an68 cd68 ct68), sl68⟩)
    (c68 : PySem.W.codeIn K cd68 "Document.begin" = true)
    (k68 : PySem.W.keepIn K (.ref f68) = true)
    (a69 : PySem.W.findIn K (.ref aD) "put_highest" = some (some (.ref f69)))
    (i69 : PySem.W.isFn K (.ref f69) = true)
    (l69 : K.lookup f69 = some ⟨oc69, od69, .func (PySem.W.fnOf "put_highest" "Document.put_highest" (defArgs s_Document_put_highest) (defBody s_Document_put_highest) (defScope s_Document_put_highest) .none kV69 dc69 pm69 an69 cd69 ct69), sl69⟩)
    (c69 : PySem.W.codeIn K cd69 "Document.put_highest" = true)
    (k69 : PySem.W.keepIn K (.ref f69) = true)
    (a70 : PySem.W.findIn K (.ref aD) "put_into" = some (some (.ref f70)))
    (i70 : PySem.W.isFn K (.ref f70) = true)
    (l70 : K.lookup f70 = some ⟨oc70, od70, .func (PySem.W.fnOf "put_into" "Document.put_into" (defArgs s_Document_put_into) (defBody s_Document_put_into) (defScope s_Document_put_into) .none kV70 dc70 pm70 an70 cd70 ct70), sl70⟩)
    (c70 : PySem.W.codeIn K cd70 "Document.put_into" = true)
    (k70 : PySem.W.keepIn K (.ref f70) = true)
    (a71 : PySem.W.findIn K (.ref aD) "take_out" = some (some (.ref f71)))
    (i71 : PySem.W.isFn K (.ref f71) = true)
    (l71 : K.lookup f71 = some ⟨oc71, od71, .func (PySem.W.fnOf "take_out" "Document.take_out" (defArgs s_Document_take_out) (defBody s_Document_take_out) (defScope s_Document_take_out) .none kV71 dc71 pm71 an71 cd71 ct71), sl71⟩)
    (c71 : PySem.W.codeIn K cd71 "Document.take_out" = true)
    (k71 : PySem.W.keepIn K (.ref f71) = true)
    (a72 : PySem.W.findIn K (.ref aR) "__init__" = some (some (.ref f72)))
    (i72 : PySem.W.isFn K (.ref f72) = true)
    (l72 : K.lookup f72 = some ⟨oc72, od72, .func (PySem.W.fnOf "__init__" "RasterLayer.__init__" (defArgs s_RasterLayer_init) (defBody s_RasterLayer_init) (defScope s_RasterLayer_init) .none kV72 dc72 pm72 an72 cd72 ct72), sl72⟩)
    (c72 : PySem.W.codeIn K cd72 "RasterLayer.__init__" = true)
    (k72 : PySem.W.keepIn K (.ref f72) = true)
    (a73 : PySem.W.findIn K (.ref aG) "__init__" = some (some (.ref f73)))
    (i73 : PySem.W.isFn K (.ref f73) = true)
    (l73 : K.lookup f73 = some ⟨oc73, od73, .func (PySem.W.fnOf "__init__" "Group.__init__" (defArgs s_Group_init) (defBody s_Group_init) (defScope s_Group_init) .none kV73 dc73 pm73 an73 cd73 ct73), sl73⟩)
    (c73 : PySem.W.codeIn K cd73 "Group.__init__" = true)
    (k73 : PySem.W.keepIn K (.ref f73) = true)
    (a74 : PySem.W.findIn K (.ref aA) "__init__" = some (some (.ref f74)))
    (i74 : PySem.W.isFn K (.ref f74) = true)
    (l74 : K.lookup f74 = some ⟨oc74, od74, .func (PySem.W.fnOf "__init__" "AdjustmentLayer.__init__" (defArgs s_AdjustmentLayer_init) (defBody s_AdjustmentLayer_init) (defScope s_AdjustmentLayer_init) .none kV74 dc74 pm74 an74 cd74 ct74), sl74⟩)
    (c74 : PySem.W.codeIn K cd74 "AdjustmentLayer.__init__" = true)
    (k74 : PySem.W.keepIn K (.ref f74) = true)
    (a75 : PySem.W.findIn K (.ref aD) "__init__" = some (some (.ref f75)))
    (i75 : PySem.W.isFn K (.ref f75) = true)
    (l75 : K.lookup f75 = some ⟨oc75, od75, .func (PySem.W.fnOf "__init__" "Document.__init__" (defArgs s_Document_init) (defBody s_Document_init) (defScope s_Document_init) .none kV75 dc75 pm75 an75 cd75 ct75), sl75⟩)
    (c75 : PySem.W.codeIn K cd75 "Document.__init__" = true)
    (k75 : PySem.W.keepIn K (.ref f75) = true)
    (a76 : PySem.W.findCls K (.ref aL) (.type "type") "__init__" = some (.val (.ref f76)))
    (l76 : K.lookup f76 = some ⟨oc76, od76, .func (PySem.W.fnOf "__init__" "Layer.__init__" (defArgs s_Layer_init) (defBody s_Layer_init) (defScope s_Layer_init) .none kV76 dc76 pm76 an76 cd76 ct76), sl76⟩)
    (c76 : PySem.W.codeIn K cd76 "Layer.__init__" = true)
    (k76 : PySem.W.keepIn K (.ref f76) = true)
    (z_range : PySem.W.nsIn K mainGlobals "range" = some none)
    (z_zip : PySem.W.nsIn K mainGlobals "zip" = some none)
    (z_sum : PySem.W.nsIn K mainGlobals "sum" = some none)
    (z_len : PySem.W.nsIn K mainGlobals "len" = some none)
    (z_min : PySem.W.nsIn K mainGlobals "min" = some none)
    (z_max : PySem.W.nsIn K mainGlobals "max" = some none)
    (z_isinstance : PySem.W.nsIn K mainGlobals "isinstance" = some none)
    (z_list : PySem.W.nsIn K mainGlobals "list" = some none)
    (z_tuple : PySem.W.nsIn K mainGlobals "tuple" = some none)
    (pg_aD : PySem.W.plainGet K aD Str.empty = true)
    (hd_aD : PySem.W.hasDictIn K aD = true)
    (po_aD : PySem.W.plainOver K aD = true)
    (sa_aD : PySem.W.findIn K (.ref aD) "__setattr__" = some (some (.builtin "object.__setattr__")))
    (na_aD_width : PySem.W.findIn K (.ref aD) "width" = some none)
    (na_aD_height : PySem.W.findIn K (.ref aD) "height" = some none)
    (na_aD_layers : PySem.W.findIn K (.ref aD) "layers" = some none)
    (na_aD_root : PySem.W.findIn K (.ref aD) "root" = some none)
    (na_aD_next_number : PySem.W.findIn K (.ref aD) "next_number" = some none)
    (mk_aD : PySem.W.makesIn K aD = true)
    (kc_aD : PySem.W.keepIn K (.ref aD) = true)
    (pg_aR : PySem.W.plainGet K aR Str.empty = true)
    (hd_aR : PySem.W.hasDictIn K aR = true)
    (po_aR : PySem.W.plainOver K aR = true)
    (sa_aR : PySem.W.findIn K (.ref aR) "__setattr__" = some (some (.builtin "object.__setattr__")))
    (na_aR_parent : PySem.W.findIn K (.ref aR) "parent" = some none)
    (na_aR_mode : PySem.W.findIn K (.ref aR) "mode" = some none)
    (na_aR_opacity : PySem.W.findIn K (.ref aR) "opacity" = some none)
    (na_aR_clip : PySem.W.findIn K (.ref aR) "clip" = some none)
    (na_aR_visible : PySem.W.findIn K (.ref aR) "visible" = some none)
    (na_aR_mask : PySem.W.findIn K (.ref aR) "mask" = some none)
    (na_aR_pixels : PySem.W.findIn K (.ref aR) "pixels" = some none)
    (mk_aR : PySem.W.makesIn K aR = true)
    (kc_aR : PySem.W.keepIn K (.ref aR) = true)
    (pg_aG : PySem.W.plainGet K aG Str.empty = true)
    (hd_aG : PySem.W.hasDictIn K aG = true)
    (po_aG : PySem.W.plainOver K aG = true)
    (sa_aG : PySem.W.findIn K (.ref aG) "__setattr__" = some (some (.builtin "object.__setattr__")))
    (na_aG_parent : PySem.W.findIn K (.ref aG) "parent" = some none)
    (na_aG_mode : PySem.W.findIn K (.ref aG) "mode" = some none)
    (na_aG_opacity : PySem.W.findIn K (.ref aG) "opacity" = some none)
    (na_aG_clip : PySem.W.findIn K (.ref aG) "clip" = some none)
    (na_aG_visible : PySem.W.findIn K (.ref aG) "visible" = some none)
    (na_aG_mask : PySem.W.findIn K (.ref aG) "mask" = some none)
    (na_aG_pass_through : PySem.W.findIn K (.ref aG) "pass_through" = some none)
    (na_aG_members : PySem.W.findIn K (.ref aG) "members" = some none)
    (mk_aG : PySem.W.makesIn K aG = true)
    (kc_aG : PySem.W.keepIn K (.ref aG) = true)
    (pg_aA : PySem.W.plainGet K aA Str.empty = true)
    (hd_aA : PySem.W.hasDictIn K aA = true)
    (po_aA : PySem.W.plainOver K aA = true)
    (sa_aA : PySem.W.findIn K (.ref aA) "__setattr__" = some (some (.builtin "object.__setattr__")))
    (na_aA_parent : PySem.W.findIn K (.ref aA) "parent" = some none)
    (na_aA_mode : PySem.W.findIn K (.ref aA) "mode" = some none)
    (na_aA_opacity : PySem.W.findIn K (.ref aA) "opacity" = some none)
    (na_aA_clip : PySem.W.findIn K (.ref aA) "clip" = some none)
    (na_aA_visible : PySem.W.findIn K (.ref aA) "visible" = some none)
    (na_aA_mask : PySem.W.findIn K (.ref aA) "mask" = some none)
    (na_aA_kind : PySem.W.findIn K (.ref aA) "kind" = some none)
    (mk_aA : PySem.W.makesIn K aA = true)
    (kc_aA : PySem.W.keepIn K (.ref aA) = true)
    (ha_aR : PySem.W.findIn K (.ref aR) "__class__" = some (some (.builtin "object.__class__")))
    (hm_aR : PySem.W.mroIn K aR (.type "object") = some true)
    (ic_aR : PySem.W.isClsIn K aR = true)
    (ty_aR : PySem.W.typeIn K (.ref aR) = some (.type "type"))
    (ha_aG : PySem.W.findIn K (.ref aG) "__class__" = some (some (.builtin "object.__class__")))
    (hm_aG : PySem.W.mroIn K aG (.type "object") = some true)
    (ic_aG : PySem.W.isClsIn K aG = true)
    (ty_aG : PySem.W.typeIn K (.ref aG) = some (.type "type"))
    (ha_aA : PySem.W.findIn K (.ref aA) "__class__" = some (some (.builtin "object.__class__")))
    (hm_aA : PySem.W.mroIn K aA (.type "object") = some true)
    (ic_aA : PySem.W.isClsIn K aA = true)
    (ty_aA : PySem.W.typeIn K (.ref aA) = some (.type "type"))
    (sb_aR_aG : PySem.W.subIn K (.ref aR) (.ref aG) = some false)
    (ne_aR_aG : (Value.ref aR == Value.ref aG) = false)
    (sb_aR_aA : PySem.W.subIn K (.ref aR) (.ref aA) = some false)
    (ne_aR_aA : (Value.ref aR == Value.ref aA) = false)
    (sb_aG_aR : PySem.W.subIn K (.ref aG) (.ref aR) = some false)
    (ne_aG_aR : (Value.ref aG == Value.ref aR) = false)
    (sb_aG_aA : PySem.W.subIn K (.ref aG) (.ref aA) = some false)
    (ne_aG_aA : (Value.ref aG == Value.ref aA) = false)
    (sb_aA_aR : PySem.W.subIn K (.ref aA) (.ref aR) = some false)
    (ne_aA_aR : (Value.ref aA == Value.ref aR) = false)
    (sb_aA_aG : PySem.W.subIn K (.ref aA) (.ref aG) = some false)
    (ne_aA_aG : (Value.ref aA == Value.ref aG) = false)
    (hn : PySem.W.specialIn K (.builtin "object.__class__") "__get__" = some (some (.builtin "getset_descriptor.__get__")))
    (tk : PySem.W.takesIn K (.builtin "object.__class__") = some true)
    (rdL : PySem.W.readsIn K aL (.type "type") = true)
    (gaL : PySem.W.specialIn K (.ref aL) "__getattribute__" = some (some (.builtin "type.__getattribute__")))
    (xE1 : PySem.W.excIn K aE1 [.type "ValueError", .type "Exception", .type "BaseException", .type "object"] "ValueError.__new__" = true)
    (kE1 : PySem.W.keepIn K (.ref aE1) = true)
    (bE1 : PySem.W.subIn K (.ref aE1) (.type "BaseException") = some true)
    (tE1 : PySem.W.typeIn K (.ref aE1) = some (.type "type"))
    (iE1 : PySem.W.isClsIn K aE1 = true)
    (xE2 : PySem.W.excIn K aE2 [.type "ValueError", .type "Exception", .type "BaseException", .type "object"] "ValueError.__new__" = true)
    (kE2 : PySem.W.keepIn K (.ref aE2) = true)
    (bE2 : PySem.W.subIn K (.ref aE2) (.type "BaseException") = some true)
    (tE2 : PySem.W.typeIn K (.ref aE2) = some (.type "type"))
    (iE2 : PySem.W.isClsIn K aE2 = true)
    (xE3 : PySem.W.excIn K aE3 [.type "ValueError", .type "Exception", .type "BaseException", .type "object"] "ValueError.__new__" = true)
    (kE3 : PySem.W.keepIn K (.ref aE3) = true)
    (bE3 : PySem.W.subIn K (.ref aE3) (.type "BaseException") = some true)
    (tE3 : PySem.W.typeIn K (.ref aE3) = some (.type "type"))
    (iE3 : PySem.W.isClsIn K aE3 = true)
    (xE4 : PySem.W.excIn K aE4 [.type "ValueError", .type "Exception", .type "BaseException", .type "object"] "ValueError.__new__" = true)
    (kE4 : PySem.W.keepIn K (.ref aE4) = true)
    (bE4 : PySem.W.subIn K (.ref aE4) (.type "BaseException") = some true)
    (tE4 : PySem.W.typeIn K (.ref aE4) = some (.type "type"))
    (iE4 : PySem.W.isClsIn K aE4 = true)
    (xE5 : PySem.W.excIn K aE5 [.type "ValueError", .type "Exception", .type "BaseException", .type "object"] "ValueError.__new__" = true)
    (kE5 : PySem.W.keepIn K (.ref aE5) = true)
    (bE5 : PySem.W.subIn K (.ref aE5) (.type "BaseException") = some true)
    (tE5 : PySem.W.typeIn K (.ref aE5) = some (.type "type"))
    (iE5 : PySem.W.isClsIn K aE5 = true)
    (s_1_1 : PySem.W.subIn K (.ref aE1) (.ref aE1) = some true)
    (s_1_2 : PySem.W.subIn K (.ref aE1) (.ref aE2) = some false)
    (s_1_3 : PySem.W.subIn K (.ref aE1) (.ref aE3) = some false)
    (s_1_4 : PySem.W.subIn K (.ref aE1) (.ref aE4) = some false)
    (s_1_5 : PySem.W.subIn K (.ref aE1) (.ref aE5) = some false)
    (s_2_1 : PySem.W.subIn K (.ref aE2) (.ref aE1) = some false)
    (s_2_2 : PySem.W.subIn K (.ref aE2) (.ref aE2) = some true)
    (s_2_3 : PySem.W.subIn K (.ref aE2) (.ref aE3) = some false)
    (s_2_4 : PySem.W.subIn K (.ref aE2) (.ref aE4) = some false)
    (s_2_5 : PySem.W.subIn K (.ref aE2) (.ref aE5) = some false)
    (s_3_1 : PySem.W.subIn K (.ref aE3) (.ref aE1) = some false)
    (s_3_2 : PySem.W.subIn K (.ref aE3) (.ref aE2) = some false)
    (s_3_3 : PySem.W.subIn K (.ref aE3) (.ref aE3) = some true)
    (s_3_4 : PySem.W.subIn K (.ref aE3) (.ref aE4) = some false)
    (s_3_5 : PySem.W.subIn K (.ref aE3) (.ref aE5) = some false)
    (s_4_1 : PySem.W.subIn K (.ref aE4) (.ref aE1) = some false)
    (s_4_2 : PySem.W.subIn K (.ref aE4) (.ref aE2) = some false)
    (s_4_3 : PySem.W.subIn K (.ref aE4) (.ref aE3) = some false)
    (s_4_4 : PySem.W.subIn K (.ref aE4) (.ref aE4) = some true)
    (s_4_5 : PySem.W.subIn K (.ref aE4) (.ref aE5) = some false)
    (s_5_1 : PySem.W.subIn K (.ref aE5) (.ref aE1) = some false)
    (s_5_2 : PySem.W.subIn K (.ref aE5) (.ref aE2) = some false)
    (s_5_3 : PySem.W.subIn K (.ref aE5) (.ref aE3) = some false)
    (s_5_4 : PySem.W.subIn K (.ref aE5) (.ref aE4) = some false)
    (s_5_5 : PySem.W.subIn K (.ref aE5) (.ref aE5) = some true)
    (v_LARGEST_SIDE : PySem.W.nsIn K mainGlobals "LARGEST_SIDE" = some (some (.int 6 t_LARGEST_SIDE)))
    (v_MOST_LAYERS : PySem.W.nsIn K mainGlobals "MOST_LAYERS" = some (some (.int 12 t_MOST_LAYERS)))
    (v_HIGHEST_LEVEL : PySem.W.nsIn K mainGlobals "HIGHEST_LEVEL" = some (some (.int 4 t_HIGHEST_LEVEL)))
    (v_HIGHEST_BYTE : PySem.W.nsIn K mainGlobals "HIGHEST_BYTE" = some (some (.int 255 t_HIGHEST_BYTE)))
    (v_HIGHEST_MODE : PySem.W.nsIn K mainGlobals "HIGHEST_MODE" = some (some (.int 11 t_HIGHEST_MODE)))
    (v_HIGHEST_KIND : PySem.W.nsIn K mainGlobals "HIGHEST_KIND" = some (some (.int 2 t_HIGHEST_KIND)))
    (nMODES : PySem.W.nsIn K mainGlobals "MODES" = some (some (.ref aM)))
    (lMODES : K.lookup aM = some ⟨.type "tuple", odM, .seq #[.ref f12, .ref f13, .ref f14, .ref f15, .ref f16, .ref f17, .ref f18, .ref f19, .ref f20, .ref f21, .ref f22, .ref f23] nM, slM⟩)
    (nCOUNTS : PySem.W.nsIn K mainGlobals "ARGUMENT_COUNTS" = some (some (.ref aC)))
    (lCOUNTS : K.lookup aC = some ⟨.type "tuple", odC, .seq #[.int 2 u0, .int 1 u1, .int 2 u2, .int 2 u3, .int 9 u4, .int 6 u5, .int 5 u6, .int 3 u7, .int 1 u8, .int 0 u9, .int 2 u10, .int 1 u11, .int 1 u12] nC, slC⟩)
    : ∃ fd : FuncData, (∀ (s : Shared) (us : List Value), us.length = (["calls"] : List Str).length → BindsTo s fd ⟨us, []⟩ ((["calls"] : List Str).zip us)) ∧ ∀ base : Heap, K.In base → base.NoSeer → base.Ns mainGlobals mg → FnOk P w K mg base CX0 63 fa fd ["calls"] (spTop K) := by
  have e := hfa.symm.trans (PySem.W.mg_of X G a60)
  cases e
  have q0 := fun_mk (st := s_empty_pixel) l0 c0 k0
  have b0 := q0.binds (ps := P_empty_pixel) fun _ _ _ _ _ _ us hl => match us, hl with | [], _ => rfl
  have F_empty_pixel : TopFn K mg "empty_pixel" "empty_pixel" s_empty_pixel P_empty_pixel := ⟨_, _, q0, PySem.W.mg_of X G a0, b0⟩
  have q1 := fun_mk (st := s_greatest_divisor) l1 c1 k1
  have b1 := q1.binds (ps := P_greatest_divisor) fun _ _ _ _ _ _ us hl => match us, hl with | [_, _], _ => rfl
  have F_greatest_divisor : TopFn K mg "greatest_divisor" "greatest_divisor" s_greatest_divisor P_greatest_divisor := ⟨_, _, q1, PySem.W.mg_of X G a1, b1⟩
  have q2 := fun_mk (st := s_ratio) l2 c2 k2
  have b2 := q2.binds (ps := P_ratio) fun _ _ _ _ _ _ us hl => match us, hl with | [_, _], _ => rfl
  have F_ratio : TopFn K mg "ratio" "ratio" s_ratio P_ratio := ⟨_, _, q2, PySem.W.mg_of X G a2, b2⟩
  have q3 := fun_mk (st := s_plus) l3 c3 k3
  have b3 := q3.binds (ps := P_plus) fun _ _ _ _ _ _ us hl => match us, hl with | [_, _], _ => rfl
  have F_plus : TopFn K mg "plus" "plus" s_plus P_plus := ⟨_, _, q3, PySem.W.mg_of X G a3, b3⟩
  have q4 := fun_mk (st := s_minus) l4 c4 k4
  have b4 := q4.binds (ps := P_minus) fun _ _ _ _ _ _ us hl => match us, hl with | [_, _], _ => rfl
  have F_minus : TopFn K mg "minus" "minus" s_minus P_minus := ⟨_, _, q4, PySem.W.mg_of X G a4, b4⟩
  have q5 := fun_mk (st := s_times) l5 c5 k5
  have b5 := q5.binds (ps := P_times) fun _ _ _ _ _ _ us hl => match us, hl with | [_, _], _ => rfl
  have F_times : TopFn K mg "times" "times" s_times P_times := ⟨_, _, q5, PySem.W.mg_of X G a5, b5⟩
  have q6 := fun_mk (st := s_complement) l6 c6 k6
  have b6 := q6.binds (ps := P_complement) fun _ _ _ _ _ _ us hl => match us, hl with | [_], _ => rfl
  have F_complement : TopFn K mg "complement" "complement" s_complement P_complement := ⟨_, _, q6, PySem.W.mg_of X G a6, b6⟩
  have q7 := fun_mk (st := s_is_at_most) l7 c7 k7
  have b7 := q7.binds (ps := P_is_at_most) fun _ _ _ _ _ _ us hl => match us, hl with | [_, _], _ => rfl
  have F_is_at_most : TopFn K mg "is_at_most" "is_at_most" s_is_at_most P_is_at_most := ⟨_, _, q7, PySem.W.mg_of X G a7, b7⟩
  have q8 := fun_mk (st := s_is_at_most_half) l8 c8 k8
  have b8 := q8.binds (ps := P_is_at_most_half) fun _ _ _ _ _ _ us hl => match us, hl with | [_], _ => rfl
  have F_is_at_most_half : TopFn K mg "is_at_most_half" "is_at_most_half" s_is_at_most_half P_is_at_most_half := ⟨_, _, q8, PySem.W.mg_of X G a8, b8⟩
  have q9 := fun_mk (st := s_mean) l9 c9 k9
  have b9 := q9.binds (ps := P_mean) fun _ _ _ _ _ _ us hl => match us, hl with | [_, _], _ => rfl
  have F_mean : TopFn K mg "mean" "mean" s_mean P_mean := ⟨_, _, q9, PySem.W.mg_of X G a9, b9⟩
  have q10 := fun_mk (st := s_of_byte) l10 c10 k10
  have b10 := q10.binds (ps := P_of_byte) fun _ _ _ _ _ _ us hl => match us, hl with | [_], _ => rfl
  have F_of_byte : TopFn K mg "of_byte" "of_byte" s_of_byte P_of_byte := ⟨_, _, q10, PySem.W.mg_of X G a10, b10⟩
  have q11 := fun_mk (st := s_as_byte) l11 c11 k11
  have b11 := q11.binds (ps := P_as_byte) fun _ _ _ _ _ _ us hl => match us, hl with | [_], _ => rfl
  have F_as_byte : TopFn K mg "as_byte" "as_byte" s_as_byte P_as_byte := ⟨_, _, q11, PySem.W.mg_of X G a11, b11⟩
  have q12 := fun_mk (st := s_normal) l12 c12 k12
  have b12 := q12.binds (ps := P_normal) fun _ _ _ _ _ _ us hl => match us, hl with | [_, _], _ => rfl
  have F_normal : TopFn K mg "normal" "normal" s_normal P_normal := ⟨_, _, q12, PySem.W.mg_of X G a12, b12⟩
  have q13 := fun_mk (st := s_multiply) l13 c13 k13
  have b13 := q13.binds (ps := P_multiply) fun _ _ _ _ _ _ us hl => match us, hl with | [_, _], _ => rfl
  have F_multiply : TopFn K mg "multiply" "multiply" s_multiply P_multiply := ⟨_, _, q13, PySem.W.mg_of X G a13, b13⟩
  have q14 := fun_mk (st := s_screen) l14 c14 k14
  have b14 := q14.binds (ps := P_screen) fun _ _ _ _ _ _ us hl => match us, hl with | [_, _], _ => rfl
  have F_screen : TopFn K mg "screen" "screen" s_screen P_screen := ⟨_, _, q14, PySem.W.mg_of X G a14, b14⟩
  have q15 := fun_mk (st := s_overlay) l15 c15 k15
  have b15 := q15.binds (ps := P_overlay) fun _ _ _ _ _ _ us hl => match us, hl with | [_, _], _ => rfl
  have F_overlay : TopFn K mg "overlay" "overlay" s_overlay P_overlay := ⟨_, _, q15, PySem.W.mg_of X G a15, b15⟩
  have q16 := fun_mk (st := s_hard_light) l16 c16 k16
  have b16 := q16.binds (ps := P_hard_light) fun _ _ _ _ _ _ us hl => match us, hl with | [_, _], _ => rfl
  have F_hard_light : TopFn K mg "hard_light" "hard_light" s_hard_light P_hard_light := ⟨_, _, q16, PySem.W.mg_of X G a16, b16⟩
  have q17 := fun_mk (st := s_darken) l17 c17 k17
  have b17 := q17.binds (ps := P_darken) fun _ _ _ _ _ _ us hl => match us, hl with | [_, _], _ => rfl
  have F_darken : TopFn K mg "darken" "darken" s_darken P_darken := ⟨_, _, q17, PySem.W.mg_of X G a17, b17⟩
  have q18 := fun_mk (st := s_lighten) l18 c18 k18
  have b18 := q18.binds (ps := P_lighten) fun _ _ _ _ _ _ us hl => match us, hl with | [_, _], _ => rfl
  have F_lighten : TopFn K mg "lighten" "lighten" s_lighten P_lighten := ⟨_, _, q18, PySem.W.mg_of X G a18, b18⟩
  have q19 := fun_mk (st := s_difference) l19 c19 k19
  have b19 := q19.binds (ps := P_difference) fun _ _ _ _ _ _ us hl => match us, hl with | [_, _], _ => rfl
  have F_difference : TopFn K mg "difference" "difference" s_difference P_difference := ⟨_, _, q19, PySem.W.mg_of X G a19, b19⟩
  have q20 := fun_mk (st := s_add) l20 c20 k20
  have b20 := q20.binds (ps := P_add) fun _ _ _ _ _ _ us hl => match us, hl with | [_, _], _ => rfl
  have F_add : TopFn K mg "add" "add" s_add P_add := ⟨_, _, q20, PySem.W.mg_of X G a20, b20⟩
  have q21 := fun_mk (st := s_subtract) l21 c21 k21
  have b21 := q21.binds (ps := P_subtract) fun _ _ _ _ _ _ us hl => match us, hl with | [_, _], _ => rfl
  have F_subtract : TopFn K mg "subtract" "subtract" s_subtract P_subtract := ⟨_, _, q21, PySem.W.mg_of X G a21, b21⟩
  have q22 := fun_mk (st := s_colour_dodge) l22 c22 k22
  have b22 := q22.binds (ps := P_colour_dodge) fun _ _ _ _ _ _ us hl => match us, hl with | [_, _], _ => rfl
  have F_colour_dodge : TopFn K mg "colour_dodge" "colour_dodge" s_colour_dodge P_colour_dodge := ⟨_, _, q22, PySem.W.mg_of X G a22, b22⟩
  have q23 := fun_mk (st := s_colour_burn) l23 c23 k23
  have b23 := q23.binds (ps := P_colour_burn) fun _ _ _ _ _ _ us hl => match us, hl with | [_, _], _ => rfl
  have F_colour_burn : TopFn K mg "colour_burn" "colour_burn" s_colour_burn P_colour_burn := ⟨_, _, q23, PySem.W.mg_of X G a23, b23⟩
  have q24 := fun_mk (st := s_blend) l24 c24 k24
  have b24 := q24.binds (ps := P_blend) fun _ _ _ _ _ _ us hl => match us, hl with | [_, _, _], _ => rfl
  have F_blend : TopFn K mg "blend" "blend" s_blend P_blend := ⟨_, _, q24, PySem.W.mg_of X G a24, b24⟩
  have q25 := fun_mk (st := s_nothing) l25 c25 k25
  have b25 := q25.binds (ps := P_nothing) fun _ _ _ _ _ _ us hl => match us, hl with | [], _ => rfl
  have F_nothing : TopFn K mg "nothing" "nothing" s_nothing P_nothing := ⟨_, _, q25, PySem.W.mg_of X G a25, b25⟩
  have q26 := fun_mk (st := s_pixel_of_bytes) l26 c26 k26
  have b26 := q26.binds (ps := P_pixel_of_bytes) fun _ _ _ _ _ _ us hl => match us, hl with | [_], _ => rfl
  have F_pixel_of_bytes : TopFn K mg "pixel_of_bytes" "pixel_of_bytes" s_pixel_of_bytes P_pixel_of_bytes := ⟨_, _, q26, PySem.W.mg_of X G a26, b26⟩
  have q27 := fun_mk (st := s_bytes_of_pixel) l27 c27 k27
  have b27 := q27.binds (ps := P_bytes_of_pixel) fun _ _ _ _ _ _ us hl => match us, hl with | [_], _ => rfl
  have F_bytes_of_pixel : TopFn K mg "bytes_of_pixel" "bytes_of_pixel" s_bytes_of_pixel P_bytes_of_pixel := ⟨_, _, q27, PySem.W.mg_of X G a27, b27⟩
  have q28 := fun_mk (st := s_over) l28 c28 k28
  have b28 := q28.binds (ps := P_over) fun _ _ _ _ _ _ us hl => match us, hl with | [_, _, _, _], _ => rfl
  have F_over : TopFn K mg "over" "over" s_over P_over := ⟨_, _, q28, PySem.W.mg_of X G a28, b28⟩
  have q29 := fun_mk (st := s_atop) l29 c29 k29
  have b29 := q29.binds (ps := P_atop) fun _ _ _ _ _ _ us hl => match us, hl with | [_, _, _, _], _ => rfl
  have F_atop : TopFn K mg "atop" "atop" s_atop P_atop := ⟨_, _, q29, PySem.W.mg_of X G a29, b29⟩
  have q30 := fun_mk (st := s_mix) l30 c30 k30
  have b30 := q30.binds (ps := P_mix) fun _ _ _ _ _ _ us hl => match us, hl with | [_, _, _], _ => rfl
  have F_mix : TopFn K mg "mix" "mix" s_mix P_mix := ⟨_, _, q30, PySem.W.mg_of X G a30, b30⟩
  have q31 := fun_mk (st := s_nearer_to_its_end) l31 c31 k31
  have b31 := q31.binds (ps := P_nearer_to_its_end) fun _ _ _ _ _ _ us hl => match us, hl with | [_], _ => rfl
  have F_nearer_to_its_end : TopFn K mg "nearer_to_its_end" "nearer_to_its_end" s_nearer_to_its_end P_nearer_to_its_end := ⟨_, _, q31, PySem.W.mg_of X G a31, b31⟩
  have q32 := fun_mk (st := s_adjusted) l32 c32 k32
  have b32 := q32.binds (ps := P_adjusted) fun _ _ _ _ _ _ us hl => match us, hl with | [_, _], _ => rfl
  have F_adjusted : TopFn K mg "adjusted" "adjusted" s_adjusted P_adjusted := ⟨_, _, q32, PySem.W.mg_of X G a32, b32⟩
  have q33 := fun_mk (st := s_weight_at) l33 c33 k33
  have b33 := q33.binds (ps := P_weight_at) fun _ _ _ _ _ _ us hl => match us, hl with | [_, _], _ => rfl
  have F_weight_at : TopFn K mg "weight_at" "weight_at" s_weight_at P_weight_at := ⟨_, _, q33, PySem.W.mg_of X G a33, b33⟩
  have q34 := fun_mk (st := s_is_pass_through) l34 c34 k34
  have b34 := q34.binds (ps := P_is_pass_through) fun _ _ _ _ _ _ us hl => match us, hl with | [_], _ => rfl
  have F_is_pass_through : TopFn K mg "is_pass_through" "is_pass_through" s_is_pass_through P_is_pass_through := ⟨_, _, q34, PySem.W.mg_of X G a34, b34⟩
  have q35 := fun_mk (st := s_can_be_base) l35 c35 k35
  have b35 := q35.binds (ps := P_can_be_base) fun _ _ _ _ _ _ us hl => match us, hl with | [_], _ => rfl
  have F_can_be_base : TopFn K mg "can_be_base" "can_be_base" s_can_be_base P_can_be_base := ⟨_, _, q35, PySem.W.mg_of X G a35, b35⟩
  have q36 := fun_mk (st := s_with_clipped) l36 c36 k36
  have b36 := q36.binds (ps := P_with_clipped) fun _ _ _ _ _ _ us hl => match us, hl with | [_], _ => rfl
  have F_with_clipped : TopFn K mg "with_clipped" "with_clipped" s_with_clipped P_with_clipped := ⟨_, _, q36, PySem.W.mg_of X G a36, b36⟩
  have q37 := fun_mk (st := s_own_pixel) l37 c37 k37
  have b37 := q37.binds (ps := P_own_pixel) fun _ _ _ _ _ _ us hl => match us, hl with | [_, _, _], _ => rfl
  have F_own_pixel : TopFn K mg "own_pixel" "own_pixel" s_own_pixel P_own_pixel := ⟨_, _, q37, PySem.W.mg_of X G a37, b37⟩
  have q38 := fun_mk (st := s_with_layer) l38 c38 k38
  have b38 := q38.binds (ps := P_with_layer) fun _ _ _ _ _ _ us hl => match us, hl with | [_, _, _, _, _], _ => rfl
  have F_with_layer : TopFn K mg "with_layer" "with_layer" s_with_layer P_with_layer := ⟨_, _, q38, PySem.W.mg_of X G a38, b38⟩
  have q39 := fun_mk (st := s_composite) l39 c39 k39
  have b39 := q39.binds (ps := P_composite) fun _ _ _ _ _ _ us hl => match us, hl with | [_, _, _, _], _ => rfl
  have F_composite : TopFn K mg "composite" "composite" s_composite P_composite := ⟨_, _, q39, PySem.W.mg_of X G a39, b39⟩
  have q40 := fun_mk (st := s_image_pixel) l40 c40 k40
  have b40 := q40.binds (ps := P_image_pixel) fun _ _ _ _ _ _ us hl => match us, hl with | [_, _], _ => rfl
  have F_image_pixel : TopFn K mg "image_pixel" "image_pixel" s_image_pixel P_image_pixel := ⟨_, _, q40, PySem.W.mg_of X G a40, b40⟩
  have q41 := fun_mk (st := s_check_side) l41 c41 k41
  have b41 := q41.binds (ps := P_check_side) fun _ _ _ _ _ _ us hl => match us, hl with | [_], _ => rfl
  have F_check_side : TopFn K mg "check_side" "check_side" s_check_side P_check_side := ⟨_, _, q41, PySem.W.mg_of X G a41, b41⟩
  have q42 := fun_mk (st := s_check_setting) l42 c42 k42
  have b42 := q42.binds (ps := P_check_setting) fun _ _ _ _ _ _ us hl => match us, hl with | [_, _], _ => rfl
  have F_check_setting : TopFn K mg "check_setting" "check_setting" s_check_setting P_check_setting := ⟨_, _, q42, PySem.W.mg_of X G a42, b42⟩
  have q43 := fun_mk (st := s_check_room) l43 c43 k43
  have b43 := q43.binds (ps := P_check_room) fun _ _ _ _ _ _ us hl => match us, hl with | [_, _], _ => rfl
  have F_check_room : TopFn K mg "check_room" "check_room" s_check_room P_check_room := ⟨_, _, q43, PySem.W.mg_of X G a43, b43⟩
  have q44 := fun_mk (st := s_new_canvas) l44 c44 k44
  have b44 := q44.binds (ps := P_new_canvas) fun _ _ _ _ _ _ us hl => match us, hl with | [_, _, _], _ => rfl
  have F_new_canvas : TopFn K mg "new_canvas" "new_canvas" s_new_canvas P_new_canvas := ⟨_, _, q44, PySem.W.mg_of X G a44, b44⟩
  have q45 := fun_mk (st := s_add_layer) l45 c45 k45
  have b45 := q45.binds (ps := P_add_layer) fun _ _ _ _ _ _ us hl => match us, hl with | [_, _], _ => rfl
  have F_add_layer : TopFn K mg "add_layer" "add_layer" s_add_layer P_add_layer := ⟨_, _, q45, PySem.W.mg_of X G a45, b45⟩
  have q46 := fun_mk (st := s_add_group) l46 c46 k46
  have b46 := q46.binds (ps := P_add_group) fun _ _ _ _ _ _ us hl => match us, hl with | [_, _, _], _ => rfl
  have F_add_group : TopFn K mg "add_group" "add_group" s_add_group P_add_group := ⟨_, _, q46, PySem.W.mg_of X G a46, b46⟩
  have q47 := fun_mk (st := s_add_adjustment) l47 c47 k47
  have b47 := q47.binds (ps := P_add_adjustment) fun _ _ _ _ _ _ us hl => match us, hl with | [_, _, _], _ => rfl
  have F_add_adjustment : TopFn K mg "add_adjustment" "add_adjustment" s_add_adjustment P_add_adjustment := ⟨_, _, q47, PySem.W.mg_of X G a47, b47⟩
  have q48 := fun_mk (st := s_paint) l48 c48 k48
  have b48 := q48.binds (ps := P_paint) fun _ _ _ _ _ _ us hl => match us, hl with | [_, _, _, _, _, _, _, _, _, _], _ => rfl
  have F_paint : TopFn K mg "paint" "paint" s_paint P_paint := ⟨_, _, q48, PySem.W.mg_of X G a48, b48⟩
  have q49 := fun_mk (st := s_set_mask) l49 c49 k49
  have b49 := q49.binds (ps := P_set_mask) fun _ _ _ _ _ _ us hl => match us, hl with | [_, _, _, _, _, _, _], _ => rfl
  have F_set_mask : TopFn K mg "set_mask" "set_mask" s_set_mask P_set_mask := ⟨_, _, q49, PySem.W.mg_of X G a49, b49⟩
  have q50 := fun_mk (st := s_set_layer) l50 c50 k50
  have b50 := q50.binds (ps := P_set_layer) fun _ _ _ _ _ _ us hl => match us, hl with | [_, _, _, _, _, _], _ => rfl
  have F_set_layer : TopFn K mg "set_layer" "set_layer" s_set_layer P_set_layer := ⟨_, _, q50, PySem.W.mg_of X G a50, b50⟩
  have q51 := fun_mk (st := s_move) l51 c51 k51
  have b51 := q51.binds (ps := P_move) fun _ _ _ _ _ _ us hl => match us, hl with | [_, _, _, _], _ => rfl
  have F_move : TopFn K mg "move" "move" s_move P_move := ⟨_, _, q51, PySem.W.mg_of X G a51, b51⟩
  have q52 := fun_mk (st := s_remove) l52 c52 k52
  have b52 := q52.binds (ps := P_remove) fun _ _ _ _ _ _ us hl => match us, hl with | [_, _], _ => rfl
  have F_remove : TopFn K mg "remove" "remove" s_remove P_remove := ⟨_, _, q52, PySem.W.mg_of X G a52, b52⟩
  have q53 := fun_mk (st := s_render) l53 c53 k53
  have b53 := q53.binds (ps := P_render) fun _ _ _ _ _ _ us hl => match us, hl with | [_], _ => rfl
  have F_render : TopFn K mg "render" "render" s_render P_render := ⟨_, _, q53, PySem.W.mg_of X G a53, b53⟩
  have q54 := fun_mk (st := s_pixel) l54 c54 k54
  have b54 := q54.binds (ps := P_pixel) fun _ _ _ _ _ _ us hl => match us, hl with | [_, _, _], _ => rfl
  have F_pixel : TopFn K mg "pixel" "pixel" s_pixel P_pixel := ⟨_, _, q54, PySem.W.mg_of X G a54, b54⟩
  have q55 := fun_mk (st := s_render_layer) l55 c55 k55
  have b55 := q55.binds (ps := P_render_layer) fun _ _ _ _ _ _ us hl => match us, hl with | [_, _], _ => rfl
  have F_render_layer : TopFn K mg "render_layer" "render_layer" s_render_layer P_render_layer := ⟨_, _, q55, PySem.W.mg_of X G a55, b55⟩
  have q56 := fun_mk (st := s_list_layers) l56 c56 k56
  have b56 := q56.binds (ps := P_list_layers) fun _ _ _ _ _ _ us hl => match us, hl with | [_, _], _ => rfl
  have F_list_layers : TopFn K mg "list_layers" "list_layers" s_list_layers P_list_layers := ⟨_, _, q56, PySem.W.mg_of X G a56, b56⟩
  have q57 := fun_mk (st := s_split_calls) l57 c57 k57
  have b57 := q57.binds (ps := P_split_calls) fun _ _ _ _ _ _ us hl => match us, hl with | [_], _ => rfl
  have F_split_calls : TopFn K mg "split_calls" "split_calls" s_split_calls P_split_calls := ⟨_, _, q57, PySem.W.mg_of X G a57, b57⟩
  have q58 := fun_mk (st := s_run_call) l58 c58 k58
  have b58 := q58.binds (ps := P_run_call) fun _ _ _ _ _ _ us hl => match us, hl with | [_, _], _ => rfl
  have F_run_call : TopFn K mg "run_call" "run_call" s_run_call P_run_call := ⟨_, _, q58, PySem.W.mg_of X G a58, b58⟩
  have q59 := fun_mk (st := s_answer_call) l59 c59 k59
  have b59 := q59.binds (ps := P_answer_call) fun _ _ _ _ _ _ us hl => match us, hl with | [_, _], _ => rfl
  have F_answer_call : TopFn K mg "answer_call" "answer_call" s_answer_call P_answer_call := ⟨_, _, q59, PySem.W.mg_of X G a59, b59⟩
  have q60 := fun_mk (st := s_answers) l60 c60 k60
  have q61 := fun_mk (st := s_Document_find_layer) l61 c61 k61
  have b61 := q61.binds (ps := P_Document_find_layer) fun _ _ _ _ _ _ us hl => match us, hl with | [_, _], _ => rfl
  have F_D_find_layer : TopMet K aD "find_layer" "Document.find_layer" s_Document_find_layer P_Document_find_layer := ⟨_, _, q61, ⟨a61, i61, k61⟩, b61⟩
  have q62 := fun_mk (st := s_Document_members_of) l62 c62 k62
  have b62 := q62.binds (ps := P_Document_members_of) fun _ _ _ _ _ _ us hl => match us, hl with | [_, _], _ => rfl
  have F_D_members_of : TopMet K aD "members_of" "Document.members_of" s_Document_members_of P_Document_members_of := ⟨_, _, q62, ⟨a62, i62, k62⟩, b62⟩
  have q63 := fun_mk (st := s_Document_level_in) l63 c63 k63
  have b63 := q63.binds (ps := P_Document_level_in) fun _ _ _ _ _ _ us hl => match us, hl with | [_, _], _ => rfl
  have F_D_level_in : TopMet K aD "level_in" "Document.level_in" s_Document_level_in P_Document_level_in := ⟨_, _, q63, ⟨a63, i63, k63⟩, b63⟩
  have q64 := fun_mk (st := s_Document_with_inner) l64 c64 k64
  have b64 := q64.binds (ps := P_Document_with_inner) fun _ _ _ _ _ _ us hl => match us, hl with | [_, _], _ => rfl
  have F_D_with_inner : TopMet K aD "with_inner" "Document.with_inner" s_Document_with_inner P_Document_with_inner := ⟨_, _, q64, ⟨a64, i64, k64⟩, b64⟩
  have q65 := fun_mk (st := s_Document_levels_of) l65 c65 k65
  have b65 := q65.binds (ps := P_Document_levels_of) fun _ _ _ _ _ _ us hl => match us, hl with | [_, _], _ => rfl
  have F_D_levels_of : TopMet K aD "levels_of" "Document.levels_of" s_Document_levels_of P_Document_levels_of := ⟨_, _, q65, ⟨a65, i65, k65⟩, b65⟩
  have q66 := fun_mk (st := s_Document_size) l66 c66 k66
  have b66 := q66.binds (ps := P_Document_size) fun _ _ _ _ _ _ us hl => match us, hl with | [_], _ => rfl
  have F_D_size : TopMet K aD "size" "Document.size" s_Document_size P_Document_size := ⟨_, _, q66, ⟨a66, i66, k66⟩, b66⟩
  have q67 := fun_mk (st := s_Document_box) l67 c67 k67
  have b67 := q67.binds (ps := P_Document_box) fun _ _ _ _ _ _ us hl => match us, hl with | [_, _, _, _, _], _ => rfl
  have F_D_box : TopMet K aD "box" "Document.box" s_Document_box P_Document_box := ⟨_, _, q67, ⟨a67, i67, k67⟩, b67⟩
  have q68 := fun_mk (st := s_Document_begin) l68 c68 k68
  have b68 := q68.binds (ps := P_Document_begin) fun _ _ _ _ _ _ us hl => match us, hl with | [_, _, _], _ => rfl
  have F_D_begin : TopMet K aD "begin" "Document.begin" s_Document_begin P_Document_begin := ⟨_, _, q68, ⟨a68, i68, k68⟩, b68⟩
  have q69 := fun_mk (st := s_Document_put_highest) l69 c69 k69
  have b69 := q69.binds (ps := P_Document_put_highest) fun _ _ _ _ _ _ us hl => match us, hl with | [_, _], _ => rfl
  have F_D_put_highest : TopMet K aD "put_highest" "Document.put_highest" s_Document_put_highest P_Document_put_highest := ⟨_, _, q69, ⟨a69, i69, k69⟩, b69⟩
  have q70 := fun_mk (st := s_Document_put_into) l70 c70 k70
  have b70 := q70.binds (ps := P_Document_put_into) fun _ _ _ _ _ _ us hl => match us, hl with | [_, _, _, _], _ => rfl
  have F_D_put_into : TopMet K aD "put_into" "Document.put_into" s_Document_put_into P_Document_put_into := ⟨_, _, q70, ⟨a70, i70, k70⟩, b70⟩
  have q71 := fun_mk (st := s_Document_take_out) l71 c71 k71
  have b71 := q71.binds (ps := P_Document_take_out) fun _ _ _ _ _ _ us hl => match us, hl with | [_, _], _ => rfl
  have F_D_take_out : TopMet K aD "take_out" "Document.take_out" s_Document_take_out P_Document_take_out := ⟨_, _, q71, ⟨a71, i71, k71⟩, b71⟩
  have q72 := fun_mk (st := s_RasterLayer_init) l72 c72 k72
  have b72 := q72.binds (ps := P_RasterLayer_init) fun _ _ _ _ _ _ us hl => match us, hl with | [_, _, _], _ => rfl
  have F_C_RasterLayer : TopInit K mg "RasterLayer" "RasterLayer.__init__" s_RasterLayer_init aR P_RasterLayer_init := ⟨_, _, q72, ⟨mk_aR, a72, i72, kc_aR⟩, PySem.W.mg_of X G n_RasterLayer, b72⟩
  have q73 := fun_mk (st := s_Group_init) l73 c73 k73
  have b73 := q73.binds (ps := P_Group_init) fun _ _ _ _ _ _ us hl => match us, hl with | [_, _, _, _], _ => rfl
  have F_C_Group : TopInit K mg "Group" "Group.__init__" s_Group_init aG P_Group_init := ⟨_, _, q73, ⟨mk_aG, a73, i73, kc_aG⟩, PySem.W.mg_of X G n_Group, b73⟩
  have q74 := fun_mk (st := s_AdjustmentLayer_init) l74 c74 k74
  have b74 := q74.binds (ps := P_AdjustmentLayer_init) fun _ _ _ _ _ _ us hl => match us, hl with | [_, _, _, _], _ => rfl
  have F_C_AdjustmentLayer : TopInit K mg "AdjustmentLayer" "AdjustmentLayer.__init__" s_AdjustmentLayer_init aA P_AdjustmentLayer_init := ⟨_, _, q74, ⟨mk_aA, a74, i74, kc_aA⟩, PySem.W.mg_of X G n_AdjustmentLayer, b74⟩
  have q75 := fun_mk (st := s_Document_init) l75 c75 k75
  have b75 := q75.binds (ps := P_Document_init) fun _ _ _ _ _ _ us hl => match us, hl with | [_], _ => rfl
  have F_C_Document : TopInit K mg "Document" "Document.__init__" s_Document_init aD P_Document_init := ⟨_, _, q75, ⟨mk_aD, a75, i75, kc_aD⟩, PySem.W.mg_of X G n_Document, b75⟩
  have q76 := fun_mk (st := s_Layer_init) l76 c76 k76
  have b76 := q76.binds (ps := P_Layer_init) fun _ _ _ _ _ _ us hl => match us, hl with | [_, _, _], _ => rfl
  have F_I_Layer : TopVia K mg "Layer" "__init__" "Layer.__init__" s_Layer_init aL P_Layer_init := ⟨_, _, .type "type", q76, ⟨rdL, gaL⟩, ⟨a76, rfl⟩, PySem.W.mg_of X G n_Layer, b76⟩
  let c : CAd := ⟨aD, aL, aR, aG, aA⟩
  let e := errs aE1 aE2 aE3 aE4 aE5
  have TBf : TB mg := ⟨PySem.W.mg_none_of X G z_range, PySem.W.mg_none_of X G z_zip, PySem.W.mg_none_of X G z_sum, PySem.W.mg_none_of X G z_len, PySem.W.mg_none_of X G z_min, PySem.W.mg_none_of X G z_max, PySem.W.mg_none_of X G z_isinstance, PySem.W.mg_none_of X G z_list, PySem.W.mg_none_of X G z_tuple⟩
  have NA_aD : ∀ f ∈ docN, NoAttr K aD f := fun f hf => by
    simp only [docN, baseN, List.cons_append, List.nil_append, List.mem_cons, List.not_mem_nil, or_false] at hf
    rcases hf with rfl | rfl | rfl | rfl | rfl
    · exact na_aD_width
    · exact na_aD_height
    · exact na_aD_layers
    · exact na_aD_root
    · exact na_aD_next_number
  have NA_aR : ∀ f ∈ namesR, NoAttr K aR f := fun f hf => by
    simp only [namesR, baseN, List.cons_append, List.nil_append, List.mem_cons, List.not_mem_nil, or_false] at hf
    rcases hf with rfl | rfl | rfl | rfl | rfl | rfl | rfl
    · exact na_aR_parent
    · exact na_aR_mode
    · exact na_aR_opacity
    · exact na_aR_clip
    · exact na_aR_visible
    · exact na_aR_mask
    · exact na_aR_pixels
  have NA_aG : ∀ f ∈ namesG, NoAttr K aG f := fun f hf => by
    simp only [namesG, baseN, List.cons_append, List.nil_append, List.mem_cons, List.not_mem_nil, or_false] at hf
    rcases hf with rfl | rfl | rfl | rfl | rfl | rfl | rfl | rfl
    · exact na_aG_parent
    · exact na_aG_mode
    · exact na_aG_opacity
    · exact na_aG_clip
    · exact na_aG_visible
    · exact na_aG_mask
    · exact na_aG_pass_through
    · exact na_aG_members
  have NA_aA : ∀ f ∈ namesA, NoAttr K aA f := fun f hf => by
    simp only [namesA, baseN, List.cons_append, List.nil_append, List.mem_cons, List.not_mem_nil, or_false] at hf
    rcases hf with rfl | rfl | rfl | rfl | rfl | rfl | rfl
    · exact na_aA_parent
    · exact na_aA_mode
    · exact na_aA_opacity
    · exact na_aA_clip
    · exact na_aA_visible
    · exact na_aA_mask
    · exact na_aA_kind
  have TCf : TC K mg c (e 2) := by
    refine { toTB := TBf, cD := ⟨pg_aD, hd_aD, po_aD, sa_aD⟩, cO := fun k => ?_, nD := NA_aD, nO := fun k => ?_, c_RasterLayer := PySem.W.mg_of X G n_RasterLayer, c_Group := PySem.W.mg_of X G n_Group, c_AdjustmentLayer := PySem.W.mg_of X G n_AdjustmentLayer, x_NoSuchLayer := ⟨PySem.W.mg_of X G n_NoSuchLayer, xE2, kE2, bE2, tE2⟩, is := fun k => ?_, hn := hn, tk := tk, isR := fun k => ?_, isG := fun k => ?_, isA := fun k => ?_ }
    · cases k
      · exact ⟨pg_aR, hd_aR, po_aR, sa_aR⟩
      · exact ⟨pg_aG, hd_aG, po_aG, sa_aG⟩
      · exact ⟨pg_aA, hd_aA, po_aA, sa_aA⟩
    · cases k
      · exact NA_aR
      · exact NA_aG
      · exact NA_aA
    · cases k
      · exact ⟨ha_aR, hm_aR⟩
      · exact ⟨ha_aG, hm_aG⟩
      · exact ⟨ha_aA, hm_aA⟩
    · cases k
      · exact (kit_self).trans (by simp)
      · exact (kit_by ne_aG_aR ic_aR ty_aR sb_aG_aR).trans (by simp)
      · exact (kit_by ne_aA_aR ic_aR ty_aR sb_aA_aR).trans (by simp)
    · cases k
      · exact kit_by ne_aR_aG ic_aG ty_aG sb_aR_aG
      · exact kit_self
      · exact kit_by ne_aA_aG ic_aG ty_aG sb_aA_aG
    · cases k
      · exact kit_by ne_aR_aA ic_aA ty_aA sb_aR_aA
      · exact kit_by ne_aG_aA ic_aA ty_aA sb_aG_aA
      · exact kit_self
  have TOf : TO K mg c e := { toTC := TCf, x_OutOfRange := ⟨PySem.W.mg_of X G n_OutOfRange, xE1, kE1, bE1, tE1⟩, x_WrongSetting := ⟨PySem.W.mg_of X G n_WrongSetting, xE3, kE3, bE3, tE3⟩, x_CannotClip := ⟨PySem.W.mg_of X G n_CannotClip, xE4, kE4, bE4, tE4⟩, x_TooFewLayers := ⟨PySem.W.mg_of X G n_TooFewLayers, xE5, kE5, bE5, tE5⟩, c_LARGEST_SIDE := ⟨_, PySem.W.mg_of X G v_LARGEST_SIDE⟩, c_MOST_LAYERS := ⟨_, PySem.W.mg_of X G v_MOST_LAYERS⟩, c_HIGHEST_LEVEL := ⟨_, PySem.W.mg_of X G v_HIGHEST_LEVEL⟩, c_HIGHEST_BYTE := ⟨_, PySem.W.mg_of X G v_HIGHEST_BYTE⟩, c_HIGHEST_MODE := ⟨_, PySem.W.mg_of X G v_HIGHEST_MODE⟩, c_HIGHEST_KIND := ⟨_, PySem.W.mg_of X G v_HIGHEST_KIND⟩ }
  have TSf : TS K mg c e aC := { toTO := TOf, c_ARGUMENT_COUNTS := PySem.W.mg_of X G nCOUNTS, counts := fun H => .inr ⟨_, _, _, lCOUNTS, rfl, rfl, (by show 13 ≤ sizeLine; decide), .cons ⟨_, rfl⟩ (.cons ⟨_, rfl⟩ (.cons ⟨_, rfl⟩ (.cons ⟨_, rfl⟩ (.cons ⟨_, rfl⟩ (.cons ⟨_, rfl⟩ (.cons ⟨_, rfl⟩ (.cons ⟨_, rfl⟩ (.cons ⟨_, rfl⟩ (.cons ⟨_, rfl⟩ (.cons ⟨_, rfl⟩ (.cons ⟨_, rfl⟩ (.cons ⟨_, rfl⟩ (.nil)))))))))))))⟩ }
  have X5 : ∀ i j, 1 ≤ i → i ≤ 5 → 1 ≤ j → j ≤ 5 → PySem.W.exmOne K (.ref (e i)) (.ref (e j)) = some (decide (i = j)) := fun i j h1 h2 h3 h4 => by
    rcases (show i = 1 ∨ i = 2 ∨ i = 3 ∨ i = 4 ∨ i = 5 by omega) with rfl | rfl | rfl | rfl | rfl <;> rcases (show j = 1 ∨ j = 2 ∨ j = 3 ∨ j = 4 ∨ j = 5 by omega) with rfl | rfl | rfl | rfl | rfl
    · exact exm_by bE1 iE1 tE1 s_1_1
    · exact exm_by bE2 iE2 tE2 s_1_2
    · exact exm_by bE3 iE3 tE3 s_1_3
    · exact exm_by bE4 iE4 tE4 s_1_4
    · exact exm_by bE5 iE5 tE5 s_1_5
    · exact exm_by bE1 iE1 tE1 s_2_1
    · exact exm_by bE2 iE2 tE2 s_2_2
    · exact exm_by bE3 iE3 tE3 s_2_3
    · exact exm_by bE4 iE4 tE4 s_2_4
    · exact exm_by bE5 iE5 tE5 s_2_5
    · exact exm_by bE1 iE1 tE1 s_3_1
    · exact exm_by bE2 iE2 tE2 s_3_2
    · exact exm_by bE3 iE3 tE3 s_3_3
    · exact exm_by bE4 iE4 tE4 s_3_4
    · exact exm_by bE5 iE5 tE5 s_3_5
    · exact exm_by bE1 iE1 tE1 s_4_1
    · exact exm_by bE2 iE2 tE2 s_4_2
    · exact exm_by bE3 iE3 tE3 s_4_3
    · exact exm_by bE4 iE4 tE4 s_4_4
    · exact exm_by bE5 iE5 tE5 s_4_5
    · exact exm_by bE1 iE1 tE1 s_5_1
    · exact exm_by bE2 iE2 tE2 s_5_2
    · exact exm_by bE3 iE3 tE3 s_5_3
    · exact exm_by bE4 iE4 tE4 s_5_4
    · exact exm_by bE5 iE5 tE5 s_5_5
  let fm : Nat → Addr := fun i => match i with
    | 0 => f12
    | 1 => f13
    | 2 => f14
    | 3 => f15
    | 4 => f16
    | 5 => f17
    | 6 => f18
    | 7 => f19
    | 8 => f20
    | 9 => f21
    | 10 => f22
    | _ => f23
  have lM : ∀ H, SqT K H aM ((List.range 12).map fun i => V.ref (fm i)) := fun H => .inr ⟨_, _, _, lMODES, rfl, rfl, (by show 12 ≤ sizeLine; decide), .cons rfl (.cons rfl (.cons rfl (.cons rfl (.cons rfl (.cons rfl (.cons rfl (.cons rfl (.cons rfl (.cons rfl (.cons rfl (.cons rfl (.nil))))))))))))⟩
  exact ⟨_, fun s us hu => match us, hu with | [_], _ => .of_eq rfl, fun base _ hs _ => chain (c := c) (e := e) (fm := fm) hs ht TSf X5 (PySem.W.mg_of X G nMODES) lM (PySem.W.mg_of X G a12) (PySem.W.mg_of X G a13) (PySem.W.mg_of X G a14) (PySem.W.mg_of X G a15) (PySem.W.mg_of X G a16) (PySem.W.mg_of X G a17) (PySem.W.mg_of X G a18) (PySem.W.mg_of X G a19) (PySem.W.mg_of X G a20) (PySem.W.mg_of X G a21) (PySem.W.mg_of X G a22) (PySem.W.mg_of X G a23) F_empty_pixel F_greatest_divisor F_ratio F_plus F_minus F_times F_complement F_is_at_most F_is_at_most_half F_mean F_of_byte F_as_byte F_normal F_multiply F_screen F_overlay F_hard_light F_darken F_lighten F_difference F_add F_subtract F_colour_dodge F_colour_burn F_blend F_nothing F_pixel_of_bytes F_bytes_of_pixel F_over F_atop F_mix F_nearer_to_its_end F_adjusted F_weight_at F_is_pass_through F_can_be_base F_with_clipped F_own_pixel F_with_layer F_composite F_image_pixel F_check_side F_check_setting F_check_room F_new_canvas F_add_layer F_add_group F_add_adjustment F_paint F_set_mask F_set_layer F_move F_remove F_render F_pixel F_render_layer F_list_layers F_split_calls F_run_call F_answer_call F_D_find_layer F_D_members_of F_D_level_in F_D_with_inner F_D_levels_of F_D_size F_D_box F_D_begin F_D_put_highest F_D_put_into F_D_take_out F_C_RasterLayer F_C_Group F_C_AdjustmentLayer F_C_Document F_I_Layer q60⟩
end LH

set_option Elab.async false
set_option linter.all false
open PySem PySem.W PyProof.Rows
namespace LH
open L2
theorem asks_top {K : PySem.W.Frag} {H : Hp} {xs : List V} {l : List Int} {out : WData} (asked : PyIe02.answers_asked l = true) (hx : DwAll K H xs [.list (l.map WData.int)]) (ho : out = .list ((PyIe02.answers l).map WData.int)) : spTop K xs H (fun v H' => Dw K H' v out) E0 := by
  cases hx with
  | cons h1 h2 =>
    cases h2
    cases h1 with
    | lst hs ha =>
      have z := L2.ints_dw l _ ha
      subst z
      obtain ⟨css, e1, ok, len, ans, tot⟩ := asked_calls asked
      refine ⟨_, css, rfl, ?_, ok, len, tot, fun H' p hp => ?_⟩
      · rw [natV_eq]
        rw [e1] at hs
        exact hs
      · subst ho
        rw [ans]
        exact .lst (L2.SqL.of hp) (L2.dw_ints _)
end LH
set_option maxRecDepth 100000 in
set_option maxHeartbeats 0 in
theorem PySem.Challenge.cw_layerimages_s01_answers_holds : PySem.Challenge.rw_layerimages_s01_answers.Holds := by
  w_on; k_headS; (case hw => exact ⟨[.list [.int 9]], by decide +kernel, by decide +kernel⟩)
  k_fillS
  refine LH.walk_end (r := PySem.Challenge.rw_layerimages_s01_answers) (k := 63) (ps := ["calls"]) (sp := LH.spTop) (by decide +kernel) rfl rfl ⟨rfl, by decide, by decide⟩ (by first | rfl | decide +kernel) (fun w h Y => PySem.W.kIn_of Y) ?F ?S
  case F =>
    intro w mg fa h Y KX G hmg
    refine' LH.all_mk KX G hmg rfl ?n_Document ?n_Layer ?n_RasterLayer ?n_Group ?n_AdjustmentLayer ?n_OutOfRange ?n_NoSuchLayer ?n_WrongSetting ?n_CannotClip ?n_TooFewLayers ?a0 ?l0 ?c0 ?k0 ?a1 ?l1 ?c1 ?k1 ?a2 ?l2 ?c2 ?k2 ?a3 ?l3 ?c3 ?k3 ?a4 ?l4 ?c4 ?k4 ?a5 ?l5 ?c5 ?k5 ?a6 ?l6 ?c6 ?k6 ?a7 ?l7 ?c7 ?k7 ?a8 ?l8 ?c8 ?k8 ?a9 ?l9 ?c9 ?k9 ?a10 ?l10 ?c10 ?k10 ?a11 ?l11 ?c11 ?k11 ?a12 ?l12 ?c12 ?k12 ?a13 ?l13 ?c13 ?k13 ?a14 ?l14 ?c14 ?k14 ?a15 ?l15 ?c15 ?k15 ?a16 ?l16 ?c16 ?k16 ?a17 ?l17 ?c17 ?k17 ?a18 ?l18 ?c18 ?k18 ?a19 ?l19 ?c19 ?k19 ?a20 ?l20 ?c20 ?k20 ?a21 ?l21 ?c21 ?k21 ?a22 ?l22 ?c22 ?k22 ?a23 ?l23 ?c23 ?k23 ?a24 ?l24 ?c24 ?k24 ?a25 ?l25 ?c25 ?k25 ?a26 ?l26 ?c26 ?k26 ?a27 ?l27 ?c27 ?k27 ?a28 ?l28 ?c28 ?k28 ?a29 ?l29 ?c29 ?k29 ?a30 ?l30 ?c30 ?k30 ?a31 ?l31 ?c31 ?k31 ?a32 ?l32 ?c32 ?k32 ?a33 ?l33 ?c33 ?k33 ?a34 ?l34 ?c34 ?k34 ?a35 ?l35 ?c35 ?k35 ?a36 ?l36 ?c36 ?k36 ?a37 ?l37 ?c37 ?k37 ?a38 ?l38 ?c38 ?k38 ?a39 ?l39 ?c39 ?k39 ?a40 ?l40 ?c40 ?k40 ?a41 ?l41 ?c41 ?k41 ?a42 ?l42 ?c42 ?k42 ?a43 ?l43 ?c43 ?k43 ?a44 ?l44 ?c44 ?k44 ?a45 ?l45 ?c45 ?k45 ?a46 ?l46 ?c46 ?k46 ?a47 ?l47 ?c47 ?k47 ?a48 ?l48 ?c48 ?k48 ?a49 ?l49 ?c49 ?k49 ?a50 ?l50 ?c50 ?k50 ?a51 ?l51 ?c51 ?k51 ?a52 ?l52 ?c52 ?k52 ?a53 ?l53 ?c53 ?k53 ?a54 ?l54 ?c54 ?k54 ?a55 ?l55 ?c55 ?k55 ?a56 ?l56 ?c56 ?k56 ?a57 ?l57 ?c57 ?k57 ?a58 ?l58 ?c58 ?k58 ?a59 ?l59 ?c59 ?k59 ?a60 ?l60 ?c60 ?k60 ?a61 ?i61 ?l61 ?c61 ?k61 ?a62 ?i62 ?l62 ?c62 ?k62 ?a63 ?i63 ?l63 ?c63 ?k63 ?a64 ?i64 ?l64 ?c64 ?k64 ?a65 ?i65 ?l65 ?c65 ?k65 ?a66 ?i66 ?l66 ?c66 ?k66 ?a67 ?i67 ?l67 ?c67 ?k67 ?a68 ?i68 ?l68 ?c68 ?k68 ?a69 ?i69 ?l69 ?c69 ?k69 ?a70 ?i70 ?l70 ?c70 ?k70 ?a71 ?i71 ?l71 ?c71 ?k71 ?a72 ?i72 ?l72 ?c72 ?k72 ?a73 ?i73 ?l73 ?c73 ?k73 ?a74 ?i74 ?l74 ?c74 ?k74 ?a75 ?i75 ?l75 ?c75 ?k75 ?a76 ?l76 ?c76 ?k76 ?z_range ?z_zip ?z_sum ?z_len ?z_min ?z_max ?z_isinstance ?z_list ?z_tuple ?pg_aD ?hd_aD ?po_aD ?sa_aD ?na_aD_width ?na_aD_height ?na_aD_layers ?na_aD_root ?na_aD_next_number ?mk_aD ?kc_aD ?pg_aR ?hd_aR ?po_aR ?sa_aR ?na_aR_parent ?na_aR_mode ?na_aR_opacity ?na_aR_clip ?na_aR_visible ?na_aR_mask ?na_aR_pixels ?mk_aR ?kc_aR ?pg_aG ?hd_aG ?po_aG ?sa_aG ?na_aG_parent ?na_aG_mode ?na_aG_opacity ?na_aG_clip ?na_aG_visible ?na_aG_mask ?na_aG_pass_through ?na_aG_members ?mk_aG ?kc_aG ?pg_aA ?hd_aA ?po_aA ?sa_aA ?na_aA_parent ?na_aA_mode ?na_aA_opacity ?na_aA_clip ?na_aA_visible ?na_aA_mask ?na_aA_kind ?mk_aA ?kc_aA ?ha_aR ?hm_aR ?ic_aR ?ty_aR ?ha_aG ?hm_aG ?ic_aG ?ty_aG ?ha_aA ?hm_aA ?ic_aA ?ty_aA ?sb_aR_aG ?ne_aR_aG ?sb_aR_aA ?ne_aR_aA ?sb_aG_aR ?ne_aG_aR ?sb_aG_aA ?ne_aG_aA ?sb_aA_aR ?ne_aA_aR ?sb_aA_aG ?ne_aA_aG ?hn ?tk ?rdL ?gaL ?xE1 ?kE1 ?bE1 ?tE1 ?iE1 ?xE2 ?kE2 ?bE2 ?tE2 ?iE2 ?xE3 ?kE3 ?bE3 ?tE3 ?iE3 ?xE4 ?kE4 ?bE4 ?tE4 ?iE4 ?xE5 ?kE5 ?bE5 ?tE5 ?iE5 ?s_1_1 ?s_1_2 ?s_1_3 ?s_1_4 ?s_1_5 ?s_2_1 ?s_2_2 ?s_2_3 ?s_2_4 ?s_2_5 ?s_3_1 ?s_3_2 ?s_3_3 ?s_3_4 ?s_3_5 ?s_4_1 ?s_4_2 ?s_4_3 ?s_4_4 ?s_4_5 ?s_5_1 ?s_5_2 ?s_5_3 ?s_5_4 ?s_5_5 ?v_LARGEST_SIDE ?v_MOST_LAYERS ?v_HIGHEST_LEVEL ?v_HIGHEST_BYTE ?v_HIGHEST_MODE ?v_HIGHEST_KIND ?nMODES ?lMODES ?nCOUNTS ?lCOUNTS
    (case n_Document => k_is)
    (case n_Layer => k_is)
    (case n_RasterLayer => k_is)
    (case n_Group => k_is)
    (case n_AdjustmentLayer => k_is)
    (case n_OutOfRange => k_is)
    (case n_NoSuchLayer => k_is)
    (case n_WrongSetting => k_is)
    (case n_CannotClip => k_is)
    (case n_TooFewLayers => k_is)
    (case a0 => k_is)
    (case l0 => k_is)
    (case c0 => k_is)
    (case k0 => k_is)
    (case a1 => k_is)
    (case l1 => k_is)
    (case c1 => k_is)
    (case k1 => k_is)
    (case a2 => k_is)
    (case l2 => k_is)
    (case c2 => k_is)
    (case k2 => k_is)
    (case a3 => k_is)
    (case l3 => k_is)
    (case c3 => k_is)
    (case k3 => k_is)
    (case a4 => k_is)
    (case l4 => k_is)
    (case c4 => k_is)
    (case k4 => k_is)
    (case a5 => k_is)
    (case l5 => k_is)
    (case c5 => k_is)
    (case k5 => k_is)
    (case a6 => k_is)
    (case l6 => k_is)
    (case c6 => k_is)
    (case k6 => k_is)
    (case a7 => k_is)
    (case l7 => k_is)
    (case c7 => k_is)
    (case k7 => k_is)
    (case a8 => k_is)
    (case l8 => k_is)
    (case c8 => k_is)
    (case k8 => k_is)
    (case a9 => k_is)
    (case l9 => k_is)
    (case c9 => k_is)
    (case k9 => k_is)
    (case a10 => k_is)
    (case l10 => k_is)
    (case c10 => k_is)
    (case k10 => k_is)
    (case a11 => k_is)
    (case l11 => k_is)
    (case c11 => k_is)
    (case k11 => k_is)
    (case a12 => k_is)
    (case l12 => k_is)
    (case c12 => k_is)
    (case k12 => k_is)
    (case a13 => k_is)
    (case l13 => k_is)
    (case c13 => k_is)
    (case k13 => k_is)
    (case a14 => k_is)
    (case l14 => k_is)
    (case c14 => k_is)
    (case k14 => k_is)
    (case a15 => k_is)
    (case l15 => k_is)
    (case c15 => k_is)
    (case k15 => k_is)
    (case a16 => k_is)
    (case l16 => k_is)
    (case c16 => k_is)
    (case k16 => k_is)
    (case a17 => k_is)
    (case l17 => k_is)
    (case c17 => k_is)
    (case k17 => k_is)
    (case a18 => k_is)
    (case l18 => k_is)
    (case c18 => k_is)
    (case k18 => k_is)
    (case a19 => k_is)
    (case l19 => k_is)
    (case c19 => k_is)
    (case k19 => k_is)
    (case a20 => k_is)
    (case l20 => k_is)
    (case c20 => k_is)
    (case k20 => k_is)
    (case a21 => k_is)
    (case l21 => k_is)
    (case c21 => k_is)
    (case k21 => k_is)
    (case a22 => k_is)
    (case l22 => k_is)
    (case c22 => k_is)
    (case k22 => k_is)
    (case a23 => k_is)
    (case l23 => k_is)
    (case c23 => k_is)
    (case k23 => k_is)
    (case a24 => k_is)
    (case l24 => k_is)
    (case c24 => k_is)
    (case k24 => k_is)
    (case a25 => k_is)
    (case l25 => k_is)
    (case c25 => k_is)
    (case k25 => k_is)
    (case a26 => k_is)
    (case l26 => k_is)
    (case c26 => k_is)
    (case k26 => k_is)
    (case a27 => k_is)
    (case l27 => k_is)
    (case c27 => k_is)
    (case k27 => k_is)
    (case a28 => k_is)
    (case l28 => k_is)
    (case c28 => k_is)
    (case k28 => k_is)
    (case a29 => k_is)
    (case l29 => k_is)
    (case c29 => k_is)
    (case k29 => k_is)
    (case a30 => k_is)
    (case l30 => k_is)
    (case c30 => k_is)
    (case k30 => k_is)
    (case a31 => k_is)
    (case l31 => k_is)
    (case c31 => k_is)
    (case k31 => k_is)
    (case a32 => k_is)
    (case l32 => k_is)
    (case c32 => k_is)
    (case k32 => k_is)
    (case a33 => k_is)
    (case l33 => k_is)
    (case c33 => k_is)
    (case k33 => k_is)
    (case a34 => k_is)
    (case l34 => k_is)
    (case c34 => k_is)
    (case k34 => k_is)
    (case a35 => k_is)
    (case l35 => k_is)
    (case c35 => k_is)
    (case k35 => k_is)
    (case a36 => k_is)
    (case l36 => k_is)
    (case c36 => k_is)
    (case k36 => k_is)
    (case a37 => k_is)
    (case l37 => k_is)
    (case c37 => k_is)
    (case k37 => k_is)
    (case a38 => k_is)
    (case l38 => k_is)
    (case c38 => k_is)
    (case k38 => k_is)
    (case a39 => k_is)
    (case l39 => k_is)
    (case c39 => k_is)
    (case k39 => k_is)
    (case a40 => k_is)
    (case l40 => k_is)
    (case c40 => k_is)
    (case k40 => k_is)
    (case a41 => k_is)
    (case l41 => k_is)
    (case c41 => k_is)
    (case k41 => k_is)
    (case a42 => k_is)
    (case l42 => k_is)
    (case c42 => k_is)
    (case k42 => k_is)
    (case a43 => k_is)
    (case l43 => k_is)
    (case c43 => k_is)
    (case k43 => k_is)
    (case a44 => k_is)
    (case l44 => k_is)
    (case c44 => k_is)
    (case k44 => k_is)
    (case a45 => k_is)
    (case l45 => k_is)
    (case c45 => k_is)
    (case k45 => k_is)
    (case a46 => k_is)
    (case l46 => k_is)
    (case c46 => k_is)
    (case k46 => k_is)
    (case a47 => k_is)
    (case l47 => k_is)
    (case c47 => k_is)
    (case k47 => k_is)
    (case a48 => k_is)
    (case l48 => k_is)
    (case c48 => k_is)
    (case k48 => k_is)
    (case a49 => k_is)
    (case l49 => k_is)
    (case c49 => k_is)
    (case k49 => k_is)
    (case a50 => k_is)
    (case l50 => k_is)
    (case c50 => k_is)
    (case k50 => k_is)
    (case a51 => k_is)
    (case l51 => k_is)
    (case c51 => k_is)
    (case k51 => k_is)
    (case a52 => k_is)
    (case l52 => k_is)
    (case c52 => k_is)
    (case k52 => k_is)
    (case a53 => k_is)
    (case l53 => k_is)
    (case c53 => k_is)
    (case k53 => k_is)
    (case a54 => k_is)
    (case l54 => k_is)
    (case c54 => k_is)
    (case k54 => k_is)
    (case a55 => k_is)
    (case l55 => k_is)
    (case c55 => k_is)
    (case k55 => k_is)
    (case a56 => k_is)
    (case l56 => k_is)
    (case c56 => k_is)
    (case k56 => k_is)
    (case a57 => k_is)
    (case l57 => k_is)
    (case c57 => k_is)
    (case k57 => k_is)
    (case a58 => k_is)
    (case l58 => k_is)
    (case c58 => k_is)
    (case k58 => k_is)
    (case a59 => k_is)
    (case l59 => k_is)
    (case c59 => k_is)
    (case k59 => k_is)
    (case a60 => k_is)
    (case l60 => k_is)
    (case c60 => k_is)
    (case k60 => k_is)
    (case a61 => k_is)
    (case i61 => k_is)
    (case l61 => k_is)
    (case c61 => k_is)
    (case k61 => k_is)
    (case a62 => k_is)
    (case i62 => k_is)
    (case l62 => k_is)
    (case c62 => k_is)
    (case k62 => k_is)
    (case a63 => k_is)
    (case i63 => k_is)
    (case l63 => k_is)
    (case c63 => k_is)
    (case k63 => k_is)
    (case a64 => k_is)
    (case i64 => k_is)
    (case l64 => k_is)
    (case c64 => k_is)
    (case k64 => k_is)
    (case a65 => k_is)
    (case i65 => k_is)
    (case l65 => k_is)
    (case c65 => k_is)
    (case k65 => k_is)
    (case a66 => k_is)
    (case i66 => k_is)
    (case l66 => k_is)
    (case c66 => k_is)
    (case k66 => k_is)
    (case a67 => k_is)
    (case i67 => k_is)
    (case l67 => k_is)
    (case c67 => k_is)
    (case k67 => k_is)
    (case a68 => k_is)
    (case i68 => k_is)
    (case l68 => k_is)
    (case c68 => k_is)
    (case k68 => k_is)
    (case a69 => k_is)
    (case i69 => k_is)
    (case l69 => k_is)
    (case c69 => k_is)
    (case k69 => k_is)
    (case a70 => k_is)
    (case i70 => k_is)
    (case l70 => k_is)
    (case c70 => k_is)
    (case k70 => k_is)
    (case a71 => k_is)
    (case i71 => k_is)
    (case l71 => k_is)
    (case c71 => k_is)
    (case k71 => k_is)
    (case a72 => k_is)
    (case i72 => k_is)
    (case l72 => k_is)
    (case c72 => k_is)
    (case k72 => k_is)
    (case a73 => k_is)
    (case i73 => k_is)
    (case l73 => k_is)
    (case c73 => k_is)
    (case k73 => k_is)
    (case a74 => k_is)
    (case i74 => k_is)
    (case l74 => k_is)
    (case c74 => k_is)
    (case k74 => k_is)
    (case a75 => k_is)
    (case i75 => k_is)
    (case l75 => k_is)
    (case c75 => k_is)
    (case k75 => k_is)
    (case a76 => k_is)
    (case l76 => k_is)
    (case c76 => k_is)
    (case k76 => k_is)
    (case z_range => k_is)
    (case z_zip => k_is)
    (case z_sum => k_is)
    (case z_len => k_is)
    (case z_min => k_is)
    (case z_max => k_is)
    (case z_isinstance => k_is)
    (case z_list => k_is)
    (case z_tuple => k_is)
    (case pg_aD => k_is)
    (case hd_aD => k_is)
    (case po_aD => k_is)
    (case sa_aD => k_is)
    (case na_aD_width => k_is)
    (case na_aD_height => k_is)
    (case na_aD_layers => k_is)
    (case na_aD_root => k_is)
    (case na_aD_next_number => k_is)
    (case mk_aD => k_is)
    (case kc_aD => k_is)
    (case pg_aR => k_is)
    (case hd_aR => k_is)
    (case po_aR => k_is)
    (case sa_aR => k_is)
    (case na_aR_parent => k_is)
    (case na_aR_mode => k_is)
    (case na_aR_opacity => k_is)
    (case na_aR_clip => k_is)
    (case na_aR_visible => k_is)
    (case na_aR_mask => k_is)
    (case na_aR_pixels => k_is)
    (case mk_aR => k_is)
    (case kc_aR => k_is)
    (case pg_aG => k_is)
    (case hd_aG => k_is)
    (case po_aG => k_is)
    (case sa_aG => k_is)
    (case na_aG_parent => k_is)
    (case na_aG_mode => k_is)
    (case na_aG_opacity => k_is)
    (case na_aG_clip => k_is)
    (case na_aG_visible => k_is)
    (case na_aG_mask => k_is)
    (case na_aG_pass_through => k_is)
    (case na_aG_members => k_is)
    (case mk_aG => k_is)
    (case kc_aG => k_is)
    (case pg_aA => k_is)
    (case hd_aA => k_is)
    (case po_aA => k_is)
    (case sa_aA => k_is)
    (case na_aA_parent => k_is)
    (case na_aA_mode => k_is)
    (case na_aA_opacity => k_is)
    (case na_aA_clip => k_is)
    (case na_aA_visible => k_is)
    (case na_aA_mask => k_is)
    (case na_aA_kind => k_is)
    (case mk_aA => k_is)
    (case kc_aA => k_is)
    (case ha_aR => k_is)
    (case hm_aR => k_is)
    (case ic_aR => k_is)
    (case ty_aR => k_is)
    (case ha_aG => k_is)
    (case hm_aG => k_is)
    (case ic_aG => k_is)
    (case ty_aG => k_is)
    (case ha_aA => k_is)
    (case hm_aA => k_is)
    (case ic_aA => k_is)
    (case ty_aA => k_is)
    (case sb_aR_aG => first | k_is | rfl)
    (case ne_aR_aG => rfl)
    (case sb_aR_aA => first | k_is | rfl)
    (case ne_aR_aA => rfl)
    (case sb_aG_aR => first | k_is | rfl)
    (case ne_aG_aR => rfl)
    (case sb_aG_aA => first | k_is | rfl)
    (case ne_aG_aA => rfl)
    (case sb_aA_aR => first | k_is | rfl)
    (case ne_aA_aR => rfl)
    (case sb_aA_aG => first | k_is | rfl)
    (case ne_aA_aG => rfl)
    (case hn => k_is)
    (case tk => k_is)
    (case rdL => k_is)
    (case gaL => k_is)
    (case xE1 => k_exc)
    (case kE1 => k_is)
    (case bE1 => k_is)
    (case tE1 => k_is)
    (case iE1 => k_is)
    (case xE2 => k_exc)
    (case kE2 => k_is)
    (case bE2 => k_is)
    (case tE2 => k_is)
    (case iE2 => k_is)
    (case xE3 => k_exc)
    (case kE3 => k_is)
    (case bE3 => k_is)
    (case tE3 => k_is)
    (case iE3 => k_is)
    (case xE4 => k_exc)
    (case kE4 => k_is)
    (case bE4 => k_is)
    (case tE4 => k_is)
    (case iE4 => k_is)
    (case xE5 => k_exc)
    (case kE5 => k_is)
    (case bE5 => k_is)
    (case tE5 => k_is)
    (case iE5 => k_is)
    (case s_1_1 => first | k_is | rfl)
    (case s_1_2 => first | k_is | rfl)
    (case s_1_3 => first | k_is | rfl)
    (case s_1_4 => first | k_is | rfl)
    (case s_1_5 => first | k_is | rfl)
    (case s_2_1 => first | k_is | rfl)
    (case s_2_2 => first | k_is | rfl)
    (case s_2_3 => first | k_is | rfl)
    (case s_2_4 => first | k_is | rfl)
    (case s_2_5 => first | k_is | rfl)
    (case s_3_1 => first | k_is | rfl)
    (case s_3_2 => first | k_is | rfl)
    (case s_3_3 => first | k_is | rfl)
    (case s_3_4 => first | k_is | rfl)
    (case s_3_5 => first | k_is | rfl)
    (case s_4_1 => first | k_is | rfl)
    (case s_4_2 => first | k_is | rfl)
    (case s_4_3 => first | k_is | rfl)
    (case s_4_4 => first | k_is | rfl)
    (case s_4_5 => first | k_is | rfl)
    (case s_5_1 => first | k_is | rfl)
    (case s_5_2 => first | k_is | rfl)
    (case s_5_3 => first | k_is | rfl)
    (case s_5_4 => first | k_is | rfl)
    (case s_5_5 => first | k_is | rfl)
    (case v_LARGEST_SIDE => k_is)
    (case v_MOST_LAYERS => k_is)
    (case v_HIGHEST_LEVEL => k_is)
    (case v_HIGHEST_BYTE => k_is)
    (case v_HIGHEST_MODE => k_is)
    (case v_HIGHEST_KIND => k_is)
    (case nMODES => k_is)
    (case lMODES => k_is)
    (case nCOUNTS => k_is)
    (case lCOUNTS => k_is)
  case S =>
    intro K H xs a hwi hask hx
    exact LH.asks_top (l := a.1) hask hx rfl
#print axioms PySem.Challenge.cw_layerimages_s01_answers_holds
